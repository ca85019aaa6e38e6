import PyProof.Rows.All
import Wide.All
import OpenK.AllK
import Wide.FinOn
import HandS.ForMost
import HandS.Strs
import HandS.IsInst
import HandS.StrMore
import HandS.NoneIn
import KE.DataEq
import PySem.Challenge.RW_whensure_k11_births
set_option Elab.async false
set_option linter.all false
set_option maxRecDepth 100000
namespace Vs
open PySem PySem.Spec PyProof.Rows L2

theorem posJ {j : Int} (h : decide (0 < j) = true) : 0 < j := of_decide_eq_true h
/-! ### heaps -/
theorem same_upd {H : Hp} {p : Addr} {o : HO} (h : H p = none) : Same H (upd H p o) := fun b x e => by
  rw [upd_ne (ne_of_none e h)]
  exact e
theorem sTup {K : PySem.W.Frag} {H H' : Hp} {a : Addr} {xs : List V} (e : Same H H') (h : SqT K H a xs) : SqT K H' a xs := by
  rcases h with (h | ⟨o, h⟩) | h
  · exact .inl (.inl (e _ _ h))
  · exact .inl (.inr ⟨o, e _ _ h⟩)
  · exact .inr h
/-- all that was tracked is as it was, but for what stands at o -/
def But (o : Addr) (H H' : Hp) : Prop := ∀ b u, b ≠ o → H b = some u → H' b = some u
theorem But.refl (o : Addr) (H : Hp) : But o H H := fun _ _ _ h => h
theorem But.trans {o : Addr} {H H1 H2 : Hp} (a : But o H H1) (b : But o H1 H2) : But o H H2 := fun c u n h => b c u n (a c u n h)
theorem But.of {o : Addr} {H H' : Hp} (a : Same H H') : But o H H' := fun c u _ h => a c u h
theorem But.set {o : Addr} {H : Hp} {u : HO} : But o H (upd H o u) := fun c u' n h => by rw [upd_ne n]; exact h

/-! ### xs.extend(t), t a tuple -/
theorem ext_tup (l : Addr) (items : Array Value) (n : Nat) (b : Addr) (ob : Obj) (items2 : Array Value) (n2 : Nat) (hs0 : ¬(!items.isEmpty && Builtin.List.listTooLong (items.size + items2.size)) = true) (hs1 : items.size ≤ sizeLine) (hs2 : items.size + items2.size ≤ sizeLine + 1) (hcl : ob.cls = .type "tuple") (hda : ob.data = .seq items2 n2) :
    Meets (Builtin.«list.extend» ⟨[.ref l, .ref b], []⟩) (fun _ R s => s.heap.get? l = some { cls := .type "list", dict := none, data := .seq items n, slots := #[] } ∧ s.heap.get? b = some ob ∧ R (.ok (.ret Value.none)) { s with heap := s.heap.update l (Obj.mapSeq fun x => x ++ items2), toks := s.toks }) := by
  obtain ⟨oc, od, oda, osl⟩ := ob
  cases hcl
  cases hda
  refine .of_wp fun prog w A R s h => ?_
  obtain ⟨hp, g, d, tk, os⟩ := s
  obtain ⟨hl, hb, h⟩ := h
  have f1 := AutoSeq1.idx_int; have f2 := AutoSeq1.sub_tuple_tuple; have f3 := AutoSeq1.sub_list_list; have f4 := AutoSeq1.sub_tuple_list; have f5 := AutoSeq1.sub_list_tuple
  have hz' : (items ++ items2).size ≤ sizeLine + 1 := by rw [Array.size_append]; exact hs2
  wp_walk using (wpAny_updateSeq hl rfl (hz := hs1) (_hz' := hz')), AutoSeq1.wpAny_loadPart' hl, AutoSeq1.wpAny_loadPart' hb
  exact ⟨_, rfl, h⟩
def rExtT (K : PySem.W.Frag) : V → List V → Hp → VK → Prop := fun x vs H Q => ∃ l b xs zs, x = .ref l ∧ vs = [.ref b] ∧ H l = some (.lst xs) ∧ SqT K H b zs ∧ xs.length + zs.length ≤ sizeLine ∧ Q .non (upd H l (.lst (xs ++ zs)))
theorem mt_extendT {X : Cx} : MtR X "list.extend" (rExtT X.K) := by
  intro pins s σ H x vs v us Q I rx rv h
  obtain ⟨l, b, xs, zs, rfl, rfl, hH, hB, hz, q⟩ := h
  cases rx
  obtain ⟨u, rfl, ru⟩ := rv.one
  cases ru
  obtain ⟨z, its, n, r, hl, e⟩ := I.lstM hH
  obtain ⟨its2, r2, ⟨ob, e2, hcl, n2, hda⟩, hl2⟩ := I.tuple hB
  have hl3 := r2.length
  have hsz : its.toArray.size + its2.toArray.size ≤ sizeLine := by rw [List.size_toArray, List.size_toArray]; omega
  have hlong : ¬ (!its.toArray.isEmpty && Builtin.List.listTooLong (its.toArray.size + its2.toArray.size)) = true := by
    rw [notLongL hsz, Bool.and_false]
    exact Bool.false_ne_true
  refine call_meets F.slot_list_extend ⟨_, e, rfl⟩ F.entry_list_extend (F.args_list_extend_2 _ _)
    (ext_tup l its.toArray n b ob its2.toArray n2 hlong (by rw [List.size_toArray]; omega) (by omega) hcl hda) ⟨e, e2, ?_⟩
  refine ⟨.non, _, I.lset (its' := its ++ its2) hH e (by simp) (r.append r2) ?_, rfl, q⟩
  rw [List.length_append]
  omega

/-! ### what a letter, a view holds -/
def deedNames : List Str := ["note", "kind", "mark", "send", "tell", "hear", "promise", "commit", "anew"]
theorem dn_len : deedNames.length = 9 := rfl
theorem dn_nodup : deedNames.Nodup := by decide +kernel
structure Dd where
  place : Nat
  nums : List Int
structure Ev where
  asleep : Bool
  shown : List Int
  after : List Int
  deed : Dd
  knows : List Int
structure Rc where
  dev : Int
  num : Int
  ev : Ev
structure Lt where
  s : Int
  r : Int
  k : Int
  n : Int
  recs : List Rc
def b2n (b : Bool) : Int := if b then 1 else 0
def numSeq (ns : List Int) : List Int := (ns.length : Int) :: ns
def numD (d : Dd) : List Int := (d.place : Int) :: (if d.place = 8 then numSeq d.nums else d.nums)
def numE (e : Ev) : List Int := [b2n e.asleep] ++ numSeq e.shown ++ numSeq e.after ++ numD e.deed ++ numSeq e.knows
def numR (r : Rc) : List Int := [r.dev, r.num] ++ numE r.ev
def numL (l : Lt) : List Int := [l.s, l.r, l.k, l.n, (l.recs.length : Int)] ++ l.recs.flatMap numR
def In18 (n : Int) : Prop := n.natAbs < 10 ^ 18
def Nt18 (n : Int) : Prop := In18 n ∧ 0 ≤ n
def arity (p : Nat) : Nat := [0, 2, 3, 2, 1, 2, 2, 1, 0].getD p 0
/-- which number of a deed may be below 0 -/
def mayNeg (p i : Nat) : Prop := (p = 2 ∧ i = 2) ∨ p = 7
structure Dd.Ok (d : Dd) : Prop where
  pl : d.place < 9
  len : d.nums.length ≤ 4
  ar : d.place ≠ 8 → d.nums.length = arity d.place
  sm : ∀ n ∈ d.nums, In18 n
  nt : ∀ i n, d.nums[i]? = some n → ¬ mayNeg d.place i → 0 ≤ n
structure Ev.Ok (e : Ev) : Prop where
  s1 : e.shown.length ≤ 4
  s2 : e.after.length ≤ 4
  s3 : e.knows.length ≤ 6
  m1 : ∀ n ∈ e.shown, In18 n
  m2 : ∀ n ∈ e.after, In18 n
  m3 : ∀ n ∈ e.knows, Nt18 n
  d : e.deed.Ok
structure Rc.Ok (r : Rc) : Prop where
  d : Nt18 r.dev
  n : Nt18 r.num
  e : r.ev.Ok
structure Lt.Ok (l : Lt) : Prop where
  s : Nt18 l.s
  r : Nt18 l.r
  k : Nt18 l.k
  n : Nt18 l.n
  len : l.recs.length ≤ 20
  rs : ∀ r ∈ l.recs, r.Ok
/-- the tuple of a list of ints -/
def TupI (K : PySem.W.Frag) (H : Hp) (a : Addr) (ns : List Int) : Prop := SqT K H a (ns.map V.int)
def DdAt (K : PySem.W.Frag) (H : Hp) (a : Addr) (d : Dd) : Prop :=
  ∃ z rest, deedNames[d.place]? = some z ∧ SqT K H a (.str z :: rest) ∧ ((d.place = 8 ∧ ∃ b, rest = [.ref b] ∧ TupI K H b d.nums) ∨ (d.place ≠ 8 ∧ rest = d.nums.map V.int))
def EvAt (K : PySem.W.Frag) (H : Hp) (a : Addr) (e : Ev) : Prop :=
  ∃ p q d r, SqT K H a [.bl e.asleep, .ref p, .ref q, .ref d, .ref r] ∧ TupI K H p e.shown ∧ TupI K H q e.after ∧ DdAt K H d e.deed ∧ TupI K H r e.knows
def RcAt (K : PySem.W.Frag) (H : Hp) (a : Addr) (r : Rc) : Prop := ∃ e, SqT K H a [.int r.dev, .int r.num, .ref e] ∧ EvAt K H e r.ev
/-- objects one beside the other -/
def Each {α : Type} (P : Addr → α → Prop) (as : List Addr) (xs : List α) : Prop := as.length = xs.length ∧ ∀ (i : Nat) (a : Addr) (x : α), as[i]? = some a → xs[i]? = some x → P a x
def LtAt (K : PySem.W.Frag) (H : Hp) (a : Addr) (l : Lt) : Prop :=
  ∃ b as, SqT K H a [.int l.s, .int l.r, .int l.k, .int l.n, .ref b] ∧ SqT K H b (as.map V.ref) ∧ Each (RcAt K H) as l.recs
section
variable {K : PySem.W.Frag} {H H' : Hp}
theorem TupI.keep {a ns} (e : Same H H') (h : TupI K H a ns) : TupI K H' a ns := sTup e h
theorem DdAt.keep {a d} (e : Same H H') (h : DdAt K H a d) : DdAt K H' a d := by
  obtain ⟨z, rest, h0, h1, h2⟩ := h
  refine ⟨z, rest, h0, sTup e h1, ?_⟩
  rcases h2 with ⟨h2, b, h3, h4⟩ | h2
  · exact .inl ⟨h2, b, h3, h4.keep e⟩
  · exact .inr h2
theorem EvAt.keep {a d} (e : Same H H') (h : EvAt K H a d) : EvAt K H' a d := by
  obtain ⟨p, q, d, r, h1, h2, h3, h4, h5⟩ := h
  exact ⟨p, q, d, r, sTup e h1, h2.keep e, h3.keep e, h4.keep e, h5.keep e⟩
theorem RcAt.keep {a d} (e : Same H H') (h : RcAt K H a d) : RcAt K H' a d := by
  obtain ⟨p, h1, h2⟩ := h
  exact ⟨p, sTup e h1, h2.keep e⟩
theorem Each.keep {α : Type} {P P' : Addr → α → Prop} {as xs} (h : Each P as xs) (f : ∀ a x, P a x → P' a x) : Each P' as xs := ⟨h.1, fun i a x h1 h2 => f a x (h.2 i a x h1 h2)⟩
theorem Each.nil {α : Type} {P : Addr → α → Prop} : Each P [] [] := ⟨rfl, fun i a x h => by simp at h⟩
theorem Each.snoc {α : Type} {P : Addr → α → Prop} {as xs} (h : Each P as xs) {a : Addr} {x : α} (p : P a x) : Each P (as ++ [a]) (xs ++ [x]) := by
  refine ⟨by simp [h.1], fun i b y h1 h2 => ?_⟩
  by_cases hi : i < as.length
  · rw [List.getElem?_append_left hi] at h1
    rw [List.getElem?_append_left (by rw [← h.1]; exact hi)] at h2
    exact h.2 i b y h1 h2
  · rw [List.getElem?_append_right (by omega)] at h1
    rw [List.getElem?_append_right (by rw [← h.1]; omega)] at h2
    rw [← h.1] at h2
    cases e : i - as.length with
    | zero =>
      rw [e] at h1 h2
      cases h1
      cases h2
      exact p
    | succ n =>
      rw [e] at h1
      simp at h1
theorem Each.get {α : Type} {P : Addr → α → Prop} {as xs} (h : Each P as xs) {i : Nat} {a : Addr} (ha : as[i]? = some a) : ∃ x, xs[i]? = some x ∧ P a x := by
  have hi : i < xs.length := by rw [← h.1]; exact (List.getElem?_eq_some_iff.mp ha).1
  exact ⟨xs[i], List.getElem?_eq_getElem hi, h.2 i a _ ha (List.getElem?_eq_getElem hi)⟩
theorem LtAt.keep {a d} (e : Same H H') (h : LtAt K H a d) : LtAt K H' a d := by
  obtain ⟨b, as, h1, h2, h3⟩ := h
  exact ⟨b, as, sTup e h1, sTup e h2, h3.keep fun _ _ q => q.keep e⟩
end
/-! ### sizes -/
theorem numD_len {d : Dd} (h : d.Ok) : (numD d).length ≤ 6 := by
  have := h.len
  unfold numD numSeq
  split <;> simp <;> omega
theorem numE_len {e : Ev} (h : e.Ok) : (numE e).length ≤ 24 := by
  have h1 := h.s1; have h2 := h.s2; have h3 := h.s3; have h4 := numD_len h.d
  unfold numE numSeq
  simp only [List.length_append, List.length_cons, List.length_nil]
  omega
theorem numR_len {r : Rc} (h : r.Ok) : (numR r).length ≤ 26 := by
  have h1 := numE_len h.e
  unfold numR
  simp only [List.length_append, List.length_cons, List.length_nil]
  omega
theorem flat_len {α : Type} {f : α → List Int} {m : Nat} : ∀ {xs : List α}, (∀ x ∈ xs, (f x).length ≤ m) → (xs.flatMap f).length ≤ xs.length * m
  | [], _ => by simp
  | x :: r, h => by
    have h1 := h x List.mem_cons_self
    have h2 := flat_len (xs := r) fun y hy => h y (List.mem_cons_of_mem _ hy)
    rw [List.flatMap_cons, List.length_append, List.length_cons, Nat.succ_mul]
    omega
theorem In18.zero : In18 0 := by unfold In18; decide
theorem In18.small {n : Nat} (h : n ≤ 1000) : In18 (n : Int) := by
  unfold In18
  rw [Int.natAbs_natCast]
  exact Nat.lt_of_le_of_lt h (by decide)
theorem In18.log {n : Int} (h : In18 n) : n.natAbs.log2 < 1920 := by
  unfold In18 at h
  by_cases h0 : n.natAbs = 0
  · rw [h0]
    decide
  · exact (Nat.log2_lt h0).mpr (Nat.lt_of_lt_of_le h (by decide +kernel))
theorem numD_in {d : Dd} (h : d.Ok) : ∀ n ∈ numD d, In18 n := by
  intro n hn
  have hp := h.pl
  have hl := h.len
  unfold numD at hn
  rcases List.mem_cons.mp hn with e | hn
  · rw [e]
    exact In18.small (by omega)
  · split at hn
    · unfold numSeq at hn
      rcases List.mem_cons.mp hn with e | hn
      · rw [e]
        exact In18.small (by omega)
      · exact h.sm n hn
    · exact h.sm n hn
theorem seq_in {ns : List Int} (hl : ns.length ≤ 1000) (h : ∀ n ∈ ns, In18 n) : ∀ n ∈ numSeq ns, In18 n := by
  intro n hn
  unfold numSeq at hn
  rcases List.mem_cons.mp hn with e | hn
  · rw [e]
    exact In18.small hl
  · exact h n hn
theorem numE_in {e : Ev} (h : e.Ok) : ∀ n ∈ numE e, In18 n := by
  intro n hn
  have h1 := h.s1; have h2 := h.s2; have h3 := h.s3
  unfold numE at hn
  rcases List.mem_append.mp hn with hn | hn
  · rcases List.mem_append.mp hn with hn | hn
    · rcases List.mem_append.mp hn with hn | hn
      · rcases List.mem_append.mp hn with hn | hn
        · rw [List.mem_singleton.mp hn]
          unfold b2n
          split
          · exact In18.small (n := 1) (by decide)
          · exact In18.zero
        · exact seq_in (by omega) h.m1 n hn
      · exact seq_in (by omega) h.m2 n hn
    · exact numD_in h.d n hn
  · exact seq_in (by omega) (fun n hn => (h.m3 n hn).1) n hn
theorem numR_in {r : Rc} (h : r.Ok) : ∀ n ∈ numR r, In18 n := by
  intro n hn
  unfold numR at hn
  rcases List.mem_append.mp hn with hn | hn
  · rcases List.mem_cons.mp hn with e | hn
    · rw [e]; exact h.d.1
    · rw [List.mem_singleton.mp hn]; exact h.n.1
  · exact numE_in h.e n hn
theorem numL_len {l : Lt} (h : l.Ok) : (numL l).length ≤ 600 := by
  have h1 := flat_len (f := numR) (m := 26) (xs := l.recs) fun r hr => numR_len (h.rs r hr)
  have h2 := h.len
  unfold numL
  simp only [List.length_append, List.length_cons, List.length_nil]
  omega
theorem numL_in {l : Lt} (h : l.Ok) : ∀ n ∈ numL l, In18 n := by
  intro n hn
  have hl := h.len
  unfold numL at hn
  rcases List.mem_append.mp hn with hn | hn
  · simp only [List.mem_cons, List.not_mem_nil, or_false] at hn
    rcases hn with e | e | e | e | e <;> rw [e]
    · exact h.s.1
    · exact h.r.1
    · exact h.k.1
    · exact h.n.1
    · exact In18.small (by omega)
  · obtain ⟨r, hr, hn⟩ := List.mem_flatMap.mp hn
    exact numR_in (h.rs r hr) n hn
/-! ### the text -/
def words (ns : List Int) : List Str := ns.map fun n => toString n
def textOf (head : Str) (ns : List Int) : Str := head ++ Str.ofString "\n" ++ Txt.join (Str.ofString " ") (words ns) ++ Str.ofString "\n"

theorem join_len (y : Str) : ∀ parts : List Str, (Str.join y parts).length ≤ (parts.map (·.length)).sum + parts.length * y.length
  | [] => Nat.zero_le _
  | [x] => by
    show x.length ≤ x.length + 0 + _
    omega
  | x :: z :: r => by
    have h := join_len y (z :: r)
    show (x ++ y ++ Str.join y (z :: r)).length ≤ _
    rw [Str.length_append, Str.length_append]
    rw [List.map_cons, List.sum_cons, List.length_cons, Nat.succ_mul]
    omega
theorem word_len {n : Int} (h : In18 n) : (Str.ofString (toString n)).length ≤ 19 := by
  unfold In18 at h
  have e := int_text_length_le10 (k := 18) (by decide) h
  rw [PySem.ofString_length]
  exact e
theorem words_sum {ns : List Int} (h : ∀ n ∈ ns, In18 n) : ((words ns).map (·.length)).sum ≤ ns.length * 19 := by
  induction ns with
  | nil => exact Nat.zero_le _
  | cons a r ih =>
    have h1 := word_len (h a List.mem_cons_self)
    have h2 := ih fun n hn => h n (List.mem_cons_of_mem _ hn)
    show (Str.ofString (toString a)).length + ((words r).map (·.length)).sum ≤ _
    rw [List.length_cons, Nat.succ_mul]
    omega
theorem words_len (ns : List Int) : (words ns).length = ns.length := List.length_map _
theorem blank_len : (Str.ofString " ").length = 1 := by decide +kernel
theorem nl_len : (Str.ofString "\n").length = 1 := by decide +kernel
theorem joined_len {ns : List Int} (h : ∀ n ∈ ns, In18 n) : (Txt.join (Str.ofString " ") (words ns)).length ≤ ns.length * 20 := by
  have h1 := join_len (Str.ofString " ") (words ns)
  have h2 := words_sum h
  rw [← TL.join_eq, words_len, blank_len] at h1
  omega
theorem line2 : (20000 : Nat) ≤ sizeLine := by decide
theorem join_fit {ns : List Int} (h : ∀ n ∈ ns, In18 n) (hl : ns.length ≤ 1000) : ((words ns).map (·.length)).sum + (words ns).length * (Str.ofString " ").length ≤ 16777216 := by
  have h2 := words_sum h
  rw [words_len, blank_len]
  omega
theorem sizes {n : Nat} (h : n ≤ 100000) : n ≤ sizeLine := Nat.le_trans h (by decide)
theorem sizes' {n : Nat} (h : n ≤ 100000) : n < sizeLine := Nat.lt_of_le_of_lt h (by decide)
theorem words_take_succ {ns : List Int} {i : Nat} (h : i < ns.length) : words (ns.take (i + 1)) = words (ns.take i) ++ [(toString ns[i] : Str)] := by
  unfold words
  rw [List.take_add_one, List.getElem?_eq_getElem h, List.map_append]
  rfl
theorem int_get {ns : List Int} {i : Nat} {x : V} (h : (ns.map V.int)[i]? = some x) : ∃ hi : i < ns.length, x = V.int ns[i] := by
  have hi := (List.getElem?_eq_some_iff.mp h).1
  rw [List.length_map] at hi
  refine ⟨hi, ?_⟩
  rw [List.getElem?_map, List.getElem?_eq_getElem hi] at h
  exact (Option.some.inj h).symm
theorem ref_get {as : List Addr} {i : Nat} {x : V} (h : (as.map V.ref)[i]? = some x) : ∃ hi : i < as.length, x = V.ref as[i] := by
  have hi := (List.getElem?_eq_some_iff.mp h).1
  rw [List.length_map] at hi
  refine ⟨hi, ?_⟩
  rw [List.getElem?_map, List.getElem?_eq_getElem hi] at h
  exact (Option.some.inj h).symm
/-! ### what is no list stands while the list at o changes -/
theorem butTup {K : PySem.W.Frag} {H H' : Hp} {o a : Addr} {xs ys : List V} (e : But o H H') (ho : H o = some (.lst xs)) (h : SqT K H a ys) : SqT K H' a ys := by
  rcases h with (h | ⟨ob, h⟩) | h
  · exact .inl (.inl (e _ _ (ne_of h ho (by intro z; cases z)) h))
  · exact .inl (.inr ⟨ob, e _ _ (ne_of h ho (by intro z; cases z)) h⟩)
  · exact .inr h
section
variable {K : PySem.W.Frag} {H H' : Hp} {o : Addr} {xs : List V}
theorem TupI.but {a ns} (e : But o H H') (ho : H o = some (.lst xs)) (h : TupI K H a ns) : TupI K H' a ns := butTup e ho h
theorem DdAt.but {a d} (e : But o H H') (ho : H o = some (.lst xs)) (h : DdAt K H a d) : DdAt K H' a d := by
  obtain ⟨z, rest, h0, h1, h2⟩ := h
  refine ⟨z, rest, h0, butTup e ho h1, ?_⟩
  rcases h2 with ⟨h2, b, h3, h4⟩ | h2
  · exact .inl ⟨h2, b, h3, h4.but e ho⟩
  · exact .inr h2
theorem EvAt.but {a d} (e : But o H H') (ho : H o = some (.lst xs)) (h : EvAt K H a d) : EvAt K H' a d := by
  obtain ⟨p, q, d, r, h1, h2, h3, h4, h5⟩ := h
  exact ⟨p, q, d, r, butTup e ho h1, h2.but e ho, h3.but e ho, h4.but e ho, h5.but e ho⟩
end
/-! ### the names of deeds -/
theorem dn_first {j m : Nat} {z : Str} (h : deedNames[j]? = some z) (hm : m < j) : deedNames[m]? ≠ some z := fun e => by
  have := nd_ix dn_nodup e h
  omega
theorem dn_anew {j : Nat} {z : Str} (h : deedNames[j]? = some z) : z = "anew" ↔ j = 8 := by
  refine ⟨fun e => nd_ix dn_nodup (x := z) h (by rw [e]; rfl), fun e => ?_⟩
  subst e
  exact (Option.some.inj h).symm
theorem dn_note {j : Nat} {z : Str} (h : deedNames[j]? = some z) : z = "note" ↔ j = 0 := by
  refine ⟨fun e => nd_ix dn_nodup (x := z) h (by rw [e]; rfl), fun e => ?_⟩
  subst e
  exact (Option.some.inj h).symm
/-- a def of the text, as it stands behind the top -/
structure Df (K : PySem.W.Frag) (mg : Str → Option Value) (x : Str) (st : Stmt) (ps : List Str) (f : Addr) (fd : FuncData) : Prop where
  F : Fun K x x st f fd
  b : Binds K fd ps []
  m : mg x = some (.ref f)
/-- the built-ins that the text calls are still its own -/
structure Txt (K : PySem.W.Frag) (mg : Str → Option Value) : Prop where
  len : mg "len" = none
  str : mg "str" = none
  int : mg "int" = none
  range : mg "range" = none
  tuple : mg "tuple" = none
  list : mg "list" = none
  isinstance : mg "isinstance" = none
  bool : mg "bool" = none
  all : mg "all" = none
/-- the tuple of the deeds' names stands at aD -/
structure Deeds (K : PySem.W.Frag) (mg : Str → Option Value) (aD : Addr) : Prop where
  m : mg "DEEDS" = some (.ref aD)
  o : ∃ ob : Obj, K.lookup aD = some ob ∧ ob.cls = .type "tuple" ∧ ob.dict = none
  sq : ∀ H, SqT K H aD (deedNames.map V.str)

theorem vint_eq {a b : Int} (c : decide (V.int a = V.int b) = true) : a = b := by injection (of_decide_eq_true c)
theorem vint_ne {a b : Int} (c : ¬ decide (V.int a = V.int b) = true) : a ≠ b := fun e => c (decide_eq_true (by rw [e]))
theorem one_of {ns : List Int} (h : ns.length = 1) : ∃ x, ns = [x] := by
  match ns, h with
  | [x], _ => exact ⟨x, rfl⟩
theorem two_of {ns : List Int} (h : ns.length = 2) : ∃ x y, ns = [x, y] := by
  match ns, h with
  | [x, y], _ => exact ⟨x, y, rfl⟩
theorem four_of {ns : List Int} (h : ns.length = 4) : ∃ x y z u, ns = [x, y, z, u] := by
  match ns, h with
  | [x, y, z, u], _ => exact ⟨x, y, z, u, rfl⟩
theorem nt_one {a n : Int} {i : Nat} (h : [a][i]? = some n) (ha : 0 ≤ a) : 0 ≤ n := by
  match i, h with
  | 0, h => cases h; exact ha
theorem nt_two {a b n : Int} {i : Nat} (h : [a, b][i]? = some n) (ha : 0 ≤ a) (hb : 0 ≤ b) : 0 ≤ n := by
  match i, h with
  | 0, h => cases h; exact ha
  | 1, h => cases h; exact hb
theorem nt_three {a b c n : Int} {i : Nat} (h : [a, b, c][i]? = some n) (h2 : ¬ mayNeg 2 i) (ha : 0 ≤ a) (hb : 0 ≤ b) : 0 ≤ n := by
  match i, h with
  | 0, h => cases h; exact ha
  | 1, h => cases h; exact hb
  | 2, h => exact absurd (Or.inl ⟨rfl, rfl⟩) h2
end Vs

namespace Vs
open PySem PySem.Spec PyProof.Rows L2
section
variable {K : PySem.W.Frag} {H H' : Hp}
theorem tyT {a : Addr} {xs : List V} (h : SqT K H a xs) : TyX K H (.ref a) (.type "tuple") := by
  rcases h with (h | ⟨o, h⟩) | ⟨o, its, n, h, hc, _⟩
  · exact .base (.tup h)
  · exact .fTuple h
  · exact .kTuple h hc
theorem tyL {a : Addr} {xs : List V} (h : SqL K H a xs) : TyX K H (.ref a) (.type "list") := by
  rcases h with (h | ⟨o, h⟩) | ⟨o, its, n, h, hc, _⟩
  · exact .base (.lst h)
  · exact .base (.frz h)
  · exact .kList h hc
/-- both denote the same, down to depth n -/
def Sim (K : PySem.W.Frag) (H : Hp) : Nat → V → V → Prop
  | 0, _, _ => False
  | n + 1, x, y => (∃ b, x = .bl b ∧ y = .bl b) ∨ (∃ i, x = .int i ∧ y = .int i) ∨ (∃ z, x = .str z ∧ y = .str z) ∨
    (∃ a b xs ys, x = .ref a ∧ y = .ref b ∧ ((SqT K H a xs ∧ SqT K H b ys) ∨ (SqL K H a xs ∧ SqL K H b ys)) ∧ xs.length = ys.length ∧ xs.length ≤ 1000 ∧ ∀ (i : Nat) u v, xs[i]? = some u → ys[i]? = some v → Sim K H n u v)
theorem Sim.int {n : Nat} {i : Int} : Sim K H (n + 1) (.int i) (.int i) := .inr (.inl ⟨i, rfl, rfl⟩)
theorem Sim.str {n : Nat} {z : Str} : Sim K H (n + 1) (.str z) (.str z) := .inr (.inr (.inl ⟨z, rfl, rfl⟩))
theorem Sim.bl {n : Nat} {b : Bool} : Sim K H (n + 1) (.bl b) (.bl b) := .inl ⟨b, rfl, rfl⟩
theorem Sim.tup {n : Nat} {a b : Addr} {xs ys : List V} (h1 : SqT K H a xs) (h2 : SqT K H b ys) (hl : xs.length = ys.length) (hs : xs.length ≤ 1000) (h : ∀ (i : Nat) u v, xs[i]? = some u → ys[i]? = some v → Sim K H n u v) : Sim K H (n + 1) (.ref a) (.ref b) :=
  .inr (.inr (.inr ⟨a, b, xs, ys, rfl, rfl, .inl ⟨h1, h2⟩, hl, hs, h⟩))
theorem Sim.lst {n : Nat} {a b : Addr} {xs ys : List V} (h1 : SqL K H a xs) (h2 : SqL K H b ys) (hl : xs.length = ys.length) (hs : xs.length ≤ 1000) (h : ∀ (i : Nat) u v, xs[i]? = some u → ys[i]? = some v → Sim K H n u v) : Sim K H (n + 1) (.ref a) (.ref b) :=
  .inr (.inr (.inr ⟨a, b, xs, ys, rfl, rfl, .inr ⟨h1, h2⟩, hl, hs, h⟩))
theorem all_nil {R : V → V → Prop} : ∀ (i : Nat) u v, ([] : List V)[i]? = some u → ([] : List V)[i]? = some v → R u v := fun i u v h => by simp at h
theorem all_cons {R : V → V → Prop} {x y : V} {xs ys : List V} (h : R x y) (t : ∀ (i : Nat) u v, xs[i]? = some u → ys[i]? = some v → R u v) : ∀ (i : Nat) u v, (x :: xs)[i]? = some u → (y :: ys)[i]? = some v → R u v
  | 0, _, _, h1, h2 => by cases h1; cases h2; exact h
  | i + 1, u, v, h1, h2 => t i u v h1 h2
theorem all_ints {n : Nat} {ns : List Int} : ∀ (i : Nat) u v, (ns.map V.int)[i]? = some u → (ns.map V.int)[i]? = some v → Sim K H (n + 1) u v := fun i u v h1 h2 => by
  rw [h1] at h2
  cases h2
  obtain ⟨hi, rfl⟩ := int_get h1
  exact .int
theorem simI {n : Nat} {a b : Addr} {ns : List Int} (h1 : TupI K H a ns) (h2 : TupI K H b ns) (hs : ns.length ≤ 1000) : Sim K H (n + 2) (.ref a) (.ref b) := .tup h1 h2 rfl (by rw [List.length_map]; exact hs) all_ints
theorem simD {n : Nat} {a b : Addr} {d : Dd} (h1 : DdAt K H a d) (h2 : DdAt K H b d) (hk : d.Ok) : Sim K H (n + 3) (.ref a) (.ref b) := by
  have hl := hk.len
  obtain ⟨z, r, e1, t1, q1⟩ := h1
  obtain ⟨z', r', e2, t2, q2⟩ := h2
  rw [e1] at e2
  cases e2
  rcases q1 with ⟨p8, c, rfl, h1⟩ | ⟨n8, rfl⟩
  · rcases q2 with ⟨_, c', rfl, h2⟩ | ⟨n8, _⟩
    · exact .tup t1 t2 rfl (by show 2 ≤ 1000; decide) (all_cons .str (all_cons (simI h1 h2 (by omega)) all_nil))
    · exact absurd p8 n8
  · rcases q2 with ⟨p8, _⟩ | ⟨_, rfl⟩
    · exact absurd p8 n8
    · exact .tup t1 t2 rfl (by rw [List.length_cons, List.length_map]; omega) (all_cons .str all_ints)
theorem simE {n : Nat} {a b : Addr} {e : Ev} (h1 : EvAt K H a e) (h2 : EvAt K H b e) (hk : e.Ok) : Sim K H (n + 4) (.ref a) (.ref b) := by
  have k1 := hk.s1; have k2 := hk.s2; have k3 := hk.s3
  obtain ⟨p, q, d, r, t, f1, f2, f3, f4⟩ := h1
  obtain ⟨p', q', d', r', t', g1, g2, g3, g4⟩ := h2
  exact .tup t t' rfl (by show 5 ≤ 1000; decide) (all_cons .bl (all_cons (simI f1 g1 (by omega)) (all_cons (simI f2 g2 (by omega)) (all_cons (simD f3 g3 hk.d) (all_cons (simI f4 g4 (by omega)) all_nil)))))
theorem simR {n : Nat} {a b : Addr} {r : Rc} (h1 : RcAt K H a r) (h2 : RcAt K H b r) (hk : r.Ok) : Sim K H (n + 5) (.ref a) (.ref b) := by
  obtain ⟨e, t, f⟩ := h1
  obtain ⟨e', t', g⟩ := h2
  exact .tup t t' rfl (by show 3 ≤ 1000; decide) (all_cons .int (all_cons .int (all_cons (simE f g hk.e) all_nil)))
theorem simEach {α : Type} {P : Addr → α → Prop} {n : Nat} {as bs : List Addr} {xs : List α} (h1 : Each P as xs) (h2 : Each P bs xs) (h : ∀ a b x, x ∈ xs → P a x → P b x → Sim K H n (.ref a) (.ref b)) :
    ∀ (i : Nat) u v, (as.map V.ref)[i]? = some u → (bs.map V.ref)[i]? = some v → Sim K H n u v := fun i u v e1 e2 => by
  obtain ⟨i1, rfl⟩ := ref_get e1
  obtain ⟨i2, rfl⟩ := ref_get e2
  have ix : i < xs.length := by rw [← h1.1]; exact i1
  exact h _ _ xs[i] (List.getElem_mem ix) (h1.2 i _ _ (List.getElem?_eq_getElem i1) (List.getElem?_eq_getElem ix)) (h2.2 i _ _ (List.getElem?_eq_getElem i2) (List.getElem?_eq_getElem ix))
theorem simL {n : Nat} {a b : Addr} {l : Lt} (h1 : LtAt K H a l) (h2 : LtAt K H b l) (hk : l.Ok) : Sim K H (n + 7) (.ref a) (.ref b) := by
  have hl := hk.len
  obtain ⟨p, as, t, f, g⟩ := h1
  obtain ⟨p', as', t', f', g'⟩ := h2
  refine .tup t t' rfl (by show 5 ≤ 1000; decide) (all_cons .int (all_cons .int (all_cons .int (all_cons .int (all_cons ?_ all_nil)))))
  exact .tup f f' (by rw [List.length_map, List.length_map, g.1, g'.1]) (by rw [List.length_map, g.1]; omega) (simEach g g' fun a b x hx u v => simR u v (hk.rs x hx))
/-! ### what some calls ask, without the frame -/
abbrev rListOf (K : PySem.W.Frag) : List V → Hp → VK → Prop := fun xs H Q => ∃ p ys, xs = [V.ref p] ∧ (SqL K H p ys ∨ SqT K H p ys) ∧ ∀ l, H l = none → Q (.ref l) (upd H l (.lst ys))
abbrev rTupleOf (K : PySem.W.Frag) : List V → Hp → VK → Prop := fun xs H Q => ∃ p ys, xs = [V.ref p] ∧ ((SqL K H p ys ∧ ∀ l, H l = none → Q (.ref l) (upd H l (.tup ys))) ∨ (SqT K H p ys ∧ Q (.ref p) H))
abbrev rLenOf (K : PySem.W.Frag) : List V → Hp → VK → Prop := fun xs H Q => ∃ p ys, xs = [V.ref p] ∧ (SqL K H p ys ∨ SqT K H p ys) ∧ Q (.int ys.length) H
/-! ### views -/
def RowAt (K : PySem.W.Frag) (H : Hp) (a : Addr) (es : List Ev) : Prop := ∃ as, H a = some (.lst (as.map V.ref)) ∧ Each (EvAt K H) as es
def VwAt (K : PySem.W.Frag) (H : Hp) (v : Addr) (vw : List (List Ev)) : Prop := ∃ rows, H v = some (.lst (rows.map V.ref)) ∧ Each (RowAt K H) rows vw
theorem RowAt.keep {a es} (e : Same H H') (h : RowAt K H a es) : RowAt K H' a es := by
  obtain ⟨as, h1, h2⟩ := h
  exact ⟨as, e _ _ h1, h2.keep fun _ _ z => z.keep e⟩
theorem VwAt.keep {v vw} (e : Same H H') (h : VwAt K H v vw) : VwAt K H' v vw := by
  obtain ⟨as, h1, h2⟩ := h
  exact ⟨as, e _ _ h1, h2.keep fun _ _ z => z.keep e⟩
structure VwOk (vw : List (List Ev)) : Prop where
  len : vw.length ≤ 6
  sum : (vw.map List.length).sum ≤ 40
  ok : ∀ es ∈ vw, ∀ e ∈ es, e.Ok
def numEs (es : List Ev) : List Int := (es.length : Int) :: es.flatMap numE
def numV (vw : List (List Ev)) : List Int := (vw.length : Int) :: vw.flatMap numEs
theorem len_le_sum {vw : List (List Ev)} {es : List Ev} (h : es ∈ vw) : es.length ≤ (vw.map List.length).sum := by
  induction vw with
  | nil => simp at h
  | cons x r ih =>
    rw [List.map_cons, List.sum_cons]
    rcases List.mem_cons.mp h with e | h
    · rw [e]; omega
    · have := ih h; omega
theorem simRow {n : Nat} {a b : Addr} {es : List Ev} (h1 : RowAt K H a es) (h2 : RowAt K H b es) (hl : es.length ≤ 100) (hk : ∀ e ∈ es, e.Ok) : Sim K H (n + 5) (.ref a) (.ref b) := by
  obtain ⟨as, f, g⟩ := h1
  obtain ⟨as', f', g'⟩ := h2
  exact .lst (SqL.of f) (SqL.of f') (by rw [List.length_map, List.length_map, g.1, g'.1]) (by rw [List.length_map, g.1]; omega) (simEach g g' fun a b x hx u v => simE u v (hk x hx))
theorem simV {n : Nat} {a b : Addr} {vw : List (List Ev)} (h1 : VwAt K H a vw) (h2 : VwAt K H b vw) (hk : VwOk vw) : Sim K H (n + 6) (.ref a) (.ref b) := by
  have hl := hk.len
  have hs := hk.sum
  obtain ⟨as, f, g⟩ := h1
  obtain ⟨as', f', g'⟩ := h2
  exact .lst (SqL.of f) (SqL.of f') (by rw [List.length_map, List.length_map, g.1, g'.1]) (by rw [List.length_map, g.1]; omega) (simEach g g' fun a b x hx u v => simRow u v (by have := len_le_sum hx; omega) (hk.ok x hx))
end
theorem numV_len_le {vw : List (List Ev)} (h : ∀ es ∈ vw, ∀ e ∈ es, e.Ok) : (vw.flatMap numEs).length ≤ vw.length + (vw.map List.length).sum * 24 := by
  induction vw with
  | nil => exact Nat.zero_le _
  | cons x r ih =>
    have h1 := ih fun es hes => h es (List.mem_cons_of_mem _ hes)
    have h2 := flat_len (f := numE) (m := 24) (xs := x) fun e he => numE_len (h x List.mem_cons_self e he)
    rw [List.flatMap_cons, List.length_append, List.map_cons, List.sum_cons, List.length_cons]
    show ((x.length : Int) :: x.flatMap numE).length + _ ≤ _
    rw [List.length_cons]
    omega
theorem numV_len {vw : List (List Ev)} (h : VwOk vw) : (numV vw).length ≤ 967 := by
  have h1 := numV_len_le h.ok
  have h2 := h.len
  have h3 := h.sum
  unfold numV
  rw [List.length_cons]
  omega
theorem numEs_in {es : List Ev} (hl : es.length ≤ 100) (h : ∀ e ∈ es, e.Ok) : ∀ n ∈ numEs es, In18 n := by
  intro n hn
  unfold numEs at hn
  rcases List.mem_cons.mp hn with e | hn
  · rw [e]; exact In18.small (by omega)
  · obtain ⟨e, he, hn⟩ := List.mem_flatMap.mp hn
    exact numE_in (h e he) n hn
theorem numV_in {vw : List (List Ev)} (h : VwOk vw) : ∀ n ∈ numV vw, In18 n := by
  intro n hn
  have h2 := h.len
  have h3 := h.sum
  unfold numV at hn
  rcases List.mem_cons.mp hn with e | hn
  · rw [e]; exact In18.small (by omega)
  · obtain ⟨es, he, hn⟩ := List.mem_flatMap.mp hn
    exact numEs_in (by have := len_le_sum he; omega) (h.ok es he) n hn
theorem flat_take_le {α : Type} {f : α → List Int} {xs : List α} (i : Nat) : ((xs.take i).flatMap f).length ≤ (xs.flatMap f).length := by
  rw [show xs.flatMap f = (xs.take i).flatMap f ++ (xs.drop i).flatMap f by rw [← List.flatMap_append, List.take_append_drop], List.length_append]
  omega
theorem flat_take {α : Type} {f : α → List Int} {xs : List α} {i : Nat} {x : α} (h : xs[i]? = some x) : (xs.take (i + 1)).flatMap f = (xs.take i).flatMap f ++ f x := by
  rw [List.take_add_one, h, List.flatMap_append]
  show _ ++ (f x ++ []) = _
  rw [List.append_nil]
theorem flat_take_len {α : Type} {f : α → List Int} {m : Nat} {xs : List α} (h : ∀ x ∈ xs, (f x).length ≤ m) (i : Nat) : ((xs.take i).flatMap f).length ≤ i * m := by
  have h1 := flat_len (f := f) (m := m) (xs := xs.take i) fun x hx => h x (List.mem_of_mem_take hx)
  have h2 : (xs.take i).length ≤ i := by rw [List.length_take]; omega
  exact Nat.le_trans h1 (Nat.mul_le_mul_right m h2)
theorem sum_grow {vw : List (List Ev)} {j : Nat} {es : List Ev} {e : Ev} (h : vw[j]? = some es) : ((vw.set j (es ++ [e])).map List.length).sum = (vw.map List.length).sum + 1 := by
  induction vw generalizing j with
  | nil => simp at h
  | cons x r ih =>
    cases j with
    | zero =>
      cases h
      show (es ++ [e]).length + (r.map List.length).sum = es.length + (r.map List.length).sum + 1
      rw [List.length_append, List.length_singleton]
      omega
    | succ j =>
      show x.length + ((r.set j (es ++ [e])).map List.length).sum = x.length + (r.map List.length).sum + 1
      rw [ih h]
      omega
theorem cut1 (xs : List V) : cutV xs (some 1) none = xs.drop 1 := by
  unfold cutV
  rw [show HT.sIx xs.length 0 (some 1) = min 1 xs.length from HT.sIx_nat xs.length 0 1, HT.sIx_none]
  cases xs with
  | nil => rfl
  | cons x r =>
    rw [show min 1 (x :: r).length = 1 by rw [List.length_cons]; omega]
    show (List.take ((x :: r).length - 1) r) = r
    rw [List.length_cons, Nat.add_sub_cancel]
    exact List.take_length
def headL (l : Lt) : List Int := [l.s, l.r, l.k, l.n, (l.recs.length : Int)]
end Vs

namespace Vs
open PySem PySem.Spec PyProof.Rows L2
/-! ### the words of a text -/
abbrev wd (n : Int) : Str := Str.ofString (toString n)
theorem tl_pos {n : Int} (h : 0 ≤ n) : TL.tl (wd n) = TL.numL n.natAbs := by
  have e : n = ((n.natAbs : Nat) : Int) := by omega
  unfold wd
  rw [e, TL.tl_num]
  rfl
theorem tl_neg {n : Int} (h : n < 0) : TL.tl (wd n) = 45 :: TL.numL n.natAbs := by
  have e : (0 : Int) - n = ((n.natAbs : Nat) : Int) := by omega
  unfold wd
  rw [PyProof.Rows.toString_neg h, e]
  have q := TL.tl_num n.natAbs
  rw [TL.tl_ofString] at q ⊢
  rw [String.toList_append, List.map_append, q]
  rfl
theorem In18.numL {n : Int} (h : In18 n) : (TL.numL n.natAbs).length ≤ 18 := TL.numL_len (by decide) h
theorem wd_free {n : Int} {s : Nat} (h : s < 48 ∨ 57 < s) (h2 : s ≠ 45) : s ∉ TL.tl (wd n) := by
  by_cases h0 : 0 ≤ n
  · rw [tl_pos h0]
    exact TL.numL_free h
  · rw [tl_neg (by omega)]
    intro hm
    rcases List.mem_cons.mp hm with e | hm
    · exact h2 e
    · exact TL.numL_free h hm
theorem wd_int {n : Int} (h : In18 n) : intText? (wd n) = some n := by
  have hl := h.numL
  by_cases h0 : 0 ≤ n
  · have e := TL.int_num (n := n.natAbs) (by omega)
    have e2 : ((n.natAbs : Nat) : Int) = n := by omega
    rw [e2] at e
    exact e
  · have t := tl_neg (n := n) (by omega)
    have e := intText_neg (x := wd n) (cs := TL.numL n.natAbs) t (TL.numL_digits _) (TL.numL_ne _) (by rw [TL.len_tl, t, List.length_cons]; omega)
    rw [TL.numL_val] at e
    rw [e]
    congr 1
    omega
/-- the digits of the word -/
def dg (n : Int) : Str := ⟨(TL.numL n.natAbs).toArray⟩
theorem dash_tl : TL.tl (Str.ofString "-") = [45] := by decide +kernel
theorem beqD (a b : List Nat) : (a == b) = decide (a = b) := by
  by_cases h : a = b
  · rw [h, decide_eq_true rfl, beq_self_eq_true]
  · rw [decide_eq_false h, beq_false_of_ne h]
theorem rmdash (x : Str) : TL.tl (Txt.removeprefix x (Str.ofString "-")) = if (TL.tl x).take 1 = [45] then (TL.tl x).drop 1 else TL.tl x := by
  have hl : (Str.ofString "-").length = 1 := by decide +kernel
  unfold Txt.removeprefix
  have hs : Builtin.Str.subAt x (Str.ofString "-") 0 = decide ((TL.tl x).take 1 = [45]) := by
    rw [StrLaws.subAt_eq, hl, show (Str.ofString "-").cps.toList = [45] from dash_tl, List.drop_zero]
    exact beqD _ _
  by_cases h : (TL.tl x).take 1 = [45]
  · rw [hs, decide_eq_true h, if_pos rfl, if_pos h, hl]
    have h1 : 1 ≤ x.length := by
      rw [TL.len_tl]
      cases e : TL.tl x with
      | nil => rw [e] at h; cases h
      | cons a r => rw [List.length_cons]; omega
    unfold Txt.affix
    show TL.tl (if (x.length - 1 == x.length) = true then x else _) = _
    rw [if_neg (by rw [beq_iff_eq]; omega)]
    exact TL.tl_strSub_end x 1
  · rw [hs, decide_eq_false h, if_neg Bool.false_ne_true, if_neg h]
    rfl
theorem zero_tl : TL.tl (Str.ofString "0") = [48] := by decide +kernel
theorem starts0 (x : Str) : Txt.startswith x (Str.ofString "0") = decide ((TL.tl x).take 1 = [48]) := by
  have hl : (Str.ofString "0").length = 1 := by decide +kernel
  unfold Txt.startswith
  rw [StrLaws.subAt_eq, hl, show (Str.ofString "0").cps.toList = [48] from zero_tl, List.drop_zero]
  have e : ((TL.tl x).take 1 == [48]) = decide ((TL.tl x).take 1 = [48]) := beqD _ _
  rw [show List.take 1 x.cps.toList = (TL.tl x).take 1 from rfl, e]
  by_cases h : (TL.tl x).take 1 = [48]
  · have h1 : 1 ≤ x.length := by
      rw [TL.len_tl]
      cases e : TL.tl x with
      | nil => rw [e] at h; cases h
      | cons a r => rw [List.length_cons]; omega
    rw [decide_eq_true h, decide_eq_true (by omega : 0 + 1 ≤ x.length)]
    rfl
  · rw [decide_eq_false h, Bool.and_false]
theorem digit_ascii : ∀ c : Nat, c < 128 → Unicode.isDigit c = (decide (48 ≤ c) && decide (c ≤ 57)) := by decide +kernel
theorem numL_lead {n : Nat} (h : 0 < n) : (TL.numL n).take 1 ≠ [48] := by
  induction n using Nat.strongRecOn with
  | _ n ih =>
    by_cases h1 : n < 10
    · rw [TL.numL_lt h1]
      intro e
      have := List.cons.inj e
      omega
    · rw [TL.numL_step (by omega)]
      have h2 := ih (n / 10) (by omega) (by omega)
      have h3 := TL.numL_ne (n / 10)
      rw [List.take_append_of_le_length (by cases e : TL.numL (n / 10) with | nil => exact absurd e h3 | cons a r => rw [List.length_cons]; omega)]
      exact h2
/-- what is_integer tells of a word -/
def isIntW (z : Str) (m : Int) : Bool :=
  if (!(Txt.isascii (Txt.removeprefix z (Str.ofString "-")) && Txt.isdigit (Txt.removeprefix z (Str.ofString "-"))) || decide (((Txt.removeprefix z (Str.ofString "-")).length : Int) > m)) = true then false
  else (decide (z = Str.ofString "0") || !Txt.startswith (Txt.removeprefix z (Str.ofString "-")) (Str.ofString "0"))
theorem ascii_of {x : Str} (h : NumText.AllDigits (TL.tl x)) (hn : TL.tl x ≠ []) : Txt.isascii x = true ∧ Txt.isdigit x = true := by
  have e1 : x.cps.all (fun c => decide (c < 128)) = (TL.tl x).all (fun c => decide (c < 128)) := (Array.all_toList ..).symm
  have e2 : x.cps.all Unicode.isDigit = (TL.tl x).all Unicode.isDigit := (Array.all_toList ..).symm
  refine ⟨?_, ?_⟩
  · show x.cps.all (fun c => decide (c < 128)) = true
    rw [e1, List.all_eq_true]
    intro c hc
    have := h c hc
    exact decide_eq_true (by omega)
  · unfold Txt.isdigit
    rw [e2, Bool.and_eq_true]
    refine ⟨decide_eq_true (by rw [TL.len_tl]; exact List.length_pos_iff.mpr hn), ?_⟩
    rw [List.all_eq_true]
    intro c hc
    have h1 := h c hc
    rw [digit_ascii c (by omega), decide_eq_true h1.1, decide_eq_true h1.2]
    rfl
theorem wd_digits {n : Int} : TL.tl (Txt.removeprefix (wd n) (Str.ofString "-")) = TL.numL n.natAbs := by
  rw [rmdash]
  by_cases h0 : 0 ≤ n
  · rw [tl_pos h0, if_neg]
    intro e
    have h1 : 45 ∈ TL.numL n.natAbs := List.mem_of_mem_take (by rw [e]; exact List.mem_singleton_self 45)
    exact TL.numL_free (by omega) h1
  · rw [tl_neg (by omega), if_pos (by rfl)]
    rfl
theorem wd_zero : wd 0 = Str.ofString "0" := by decide +kernel
theorem wd_isInt {n m : Int} (h : In18 n) (hm : 18 ≤ m) : isIntW (wd n) m = true := by
  have hd := wd_digits (n := n)
  have hl := h.numL
  have ha := ascii_of (x := Txt.removeprefix (wd n) (Str.ofString "-")) (by rw [hd]; exact TL.numL_digits _) (by rw [hd]; exact TL.numL_ne _)
  unfold isIntW
  rw [ha.1, ha.2, decide_eq_false (by rw [TL.len_tl, hd]; omega)]
  show (decide (wd n = Str.ofString "0") || _) = true
  by_cases h0 : n = 0
  · rw [h0, decide_eq_true wd_zero]
    rfl
  · rw [starts0, hd, decide_eq_false (numL_lead (by omega))]
    exact Bool.or_true _
theorem wd_len {n : Int} (h : In18 n) : (wd n).length ≤ 19 := word_len h
/-! ### the lines and words of a text -/
theorem nl_tl : TL.tl (Str.ofString "\n") = [10] := by decide +kernel
theorem blank_tl : TL.tl (Str.ofString " ") = [32] := by decide +kernel
theorem joinL_free {s : Nat} {S : List Nat} (hs : s ∉ S) : ∀ {ps : List (List Nat)}, (∀ p ∈ ps, s ∉ p) → s ∉ TL.joinL S ps
  | [], _ => by show s ∉ ([] : List Nat); simp
  | [p], h => h p List.mem_cons_self
  | p :: q :: r, h => by
    have h1 := joinL_free hs (ps := q :: r) fun z hz => h z (List.mem_cons_of_mem _ hz)
    intro hm
    rcases List.mem_append.mp hm with hm | hm
    · exact h p List.mem_cons_self hm
    · rcases List.mem_append.mp hm with hm | hm
      · exact hs hm
      · exact h1 hm
theorem joined_free {ns : List Int} : (10 : Nat) ∉ TL.tl (Txt.join (Str.ofString " ") (words ns)) := by
  rw [TL.join_eq, TL.tl_join]
  refine joinL_free (by rw [blank_tl]; decide) fun p hp => ?_
  obtain ⟨z, hz, rfl⟩ := List.mem_map.mp hp
  obtain ⟨n, _, rfl⟩ := List.mem_map.mp hz
  exact wd_free (n := n) (by omega) (by omega)
theorem text_join (hd : Str) (ns : List Int) : textOf hd ns = Txt.join (Str.ofString "\n") [hd, Txt.join (Str.ofString " ") (words ns), Str.ofString ""] := by
  apply TL.ext_tl
  rw [TL.join_eq, TL.tl_join]
  unfold textOf
  rw [TL.tl_append, TL.tl_append, TL.tl_append]
  show _ = TL.tl hd ++ (TL.tl (Str.ofString "\n") ++ (TL.tl (Txt.join (Str.ofString " ") (words ns)) ++ (TL.tl (Str.ofString "\n") ++ [])))
  simp only [List.append_assoc, List.append_nil]
theorem text_split {hd : Str} {ns : List Int} (h : (10 : Nat) ∉ TL.tl hd) : Txt.split (textOf hd ns) (Str.ofString "\n") = [hd, Txt.join (Str.ofString " ") (words ns), Str.ofString ""] := by
  rw [text_join]
  refine TL.split_join (s := 10) (S := []) nl_tl (by decide +kernel) (by simp) fun p hp => ?_
  simp only [List.mem_cons, List.not_mem_nil, or_false] at hp
  rcases hp with rfl | rfl | rfl
  · exact h
  · exact joined_free
  · decide +kernel
theorem words_split {ns : List Int} (h : ns ≠ []) : Txt.split (Txt.join (Str.ofString " ") (words ns)) (Str.ofString " ") = words ns := by
  refine TL.split_join (s := 32) (S := []) blank_tl (by decide +kernel) (by unfold words; simpa using h) fun p hp => ?_
  obtain ⟨n, _, rfl⟩ := List.mem_map.mp hp
  exact wd_free (n := n) (by omega) (by omega)
theorem text_len {hd : Str} {ns : List Int} (h : ∀ n ∈ ns, In18 n) : (textOf hd ns).length ≤ hd.length + ns.length * 20 + 2 := by
  have h1 := joined_len h
  unfold textOf
  rw [Str.length_append, Str.length_append, Str.length_append, nl_len]
  omega
/-! ### methods of a class -/
structure Mt (K : PySem.W.Frag) (C : Addr) (x qual : Str) (st : Stmt) (ps : List Str) (f : Addr) (fd : FuncData) : Prop where
  F : Fun K x qual st f fd
  b : Binds K fd ps []
  m : Meth K C x f
/-! ### a Taker -/
structure Tk (K : PySem.W.Frag) (mg : Str → Option Value) (C : Addr) : Prop where
  cl : Cls K C
  nI : NoAttr K C "integers"
  nT : NoAttr K C "taken"
  mg : mg "Taker" = some (.ref C)
theorem kit : ¬ (("integers" : Str) = "taken") := by decide +kernel
/-- its attributes -/
def tf (l : Addr) (i : Int) : List (Str × V) := putF "taken" (.int i) (putF "integers" (.ref l) [])
theorem tf_eq (l : Addr) (i : Int) : tf l i = ([("integers", V.ref l), ("taken", V.int i)] : List (Str × V)) := by
  show (if ("integers" : Str) = "taken" then [(("integers" : Str), V.int i)] else (("integers" : Str), V.ref l) :: putF "taken" (V.int i) []) = ([("integers", V.ref l), ("taken", V.int i)] : List (Str × V))
  rw [if_neg kit]
  rfl
theorem tf_int (l : Addr) (i : Int) : (tf l i).lookup ("integers" : Str) = some (.ref l) := by
  unfold tf
  rw [lookup_putF, if_neg kit, lookup_putF, if_pos rfl]
theorem tf_tak (l : Addr) (i : Int) : (tf l i).lookup ("taken" : Str) = some (.int i) := by
  unfold tf
  rw [lookup_putF, if_pos rfl]
theorem tf_no (l : Addr) (i : Int) {m : Str} (h1 : ¬ m = "taken") (h2 : ¬ m = "integers") : (tf l i).lookup m = none := by
  unfold tf
  rw [lookup_putF, if_neg h1, lookup_putF, if_neg h2]
  rfl
theorem tf_put (l : Addr) (i j : Int) : putF "taken" (.int j) (tf l i) = tf l j := by
  rw [tf_eq, tf_eq]
  show (if ("integers" : Str) = "taken" then _ else (("integers" : Str), V.ref l) :: (if ("taken" : Str) = "taken" then [(("taken" : Str), V.int j)] else _)) = ([("integers", V.ref l), ("taken", V.int j)] : List (Str × V))
  rw [if_neg kit, if_pos rfl]
/-- a Taker at p, its list at l, with these integers left -/
def TkAt (C : Addr) (H : Hp) (p l : Addr) (rest : List Int) : Prop := ∃ (dx : Addr) (ns : List Int) (i : Nat), H p = some (.ins C dx (tf l (i : Int))) ∧ H l = some (.lst (ns.map V.int)) ∧ i ≤ ns.length ∧ ns.length ≤ 1000 ∧ ns.drop i = rest
theorem TkAt.keep {C : Addr} {H H' : Hp} {p l : Addr} {rest : List Int} (e : Same H H') (h : TkAt C H p l rest) : TkAt C H' p l rest := by
  obtain ⟨dx, ns, i, h1, h2, h3⟩ := h
  exact ⟨dx, ns, i, e _ _ h1, e _ _ h2, h3⟩
theorem TkAt.but {C o : Addr} {H H' : Hp} {p l : Addr} {rest : List Int} (e : But o H H') (hp : o ≠ p) (hl : o ≠ l) (h : TkAt C H p l rest) : TkAt C H' p l rest := by
  obtain ⟨dx, ns, i, h1, h2, h3⟩ := h
  exact ⟨dx, ns, i, e _ _ hp.symm h1, e _ _ hl.symm h2, h3⟩
theorem TkAt.len {C : Addr} {H : Hp} {p l : Addr} {rest : List Int} (h : TkAt C H p l rest) : rest.length ≤ 1000 := by
  obtain ⟨dx, ns, i, h1, h2, h3, h4, rfl⟩ := h
  rw [List.length_drop]
  omega
/-! ### what stands while an instance changes -/
theorem insTup {C dx : Addr} {fs : List (Str × V)} {K : PySem.W.Frag} {H H' : Hp} {o a : Addr} {ys : List V} (e : But o H H') (ho : H o = some (.ins C dx fs)) (h : SqT K H a ys) : SqT K H' a ys := by
  rcases h with (h | ⟨ob, h⟩) | h
  · exact .inl (.inl (e _ _ (ne_of h ho (by intro z; cases z)) h))
  · exact .inl (.inr ⟨ob, e _ _ (ne_of h ho (by intro z; cases z)) h⟩)
  · exact .inr h
section
variable {K : PySem.W.Frag} {H H' : Hp} {o : Addr} {C dx : Addr} {fs : List (Str × V)}
theorem TupI.ins {a ns} (e : But o H H') (ho : H o = some (.ins C dx fs)) (h : TupI K H a ns) : TupI K H' a ns := insTup e ho h
theorem DdAt.ins {a d} (e : But o H H') (ho : H o = some (.ins C dx fs)) (h : DdAt K H a d) : DdAt K H' a d := by
  obtain ⟨z, rest, h0, h1, h2⟩ := h
  refine ⟨z, rest, h0, insTup e ho h1, ?_⟩
  rcases h2 with ⟨h2, b, h3, h4⟩ | h2
  · exact .inl ⟨h2, b, h3, h4.ins e ho⟩
  · exact .inr h2
theorem EvAt.ins {a d} (e : But o H H') (ho : H o = some (.ins C dx fs)) (h : EvAt K H a d) : EvAt K H' a d := by
  obtain ⟨p, q, d, r, h1, h2, h3, h4, h5⟩ := h
  exact ⟨p, q, d, r, insTup e ho h1, h2.ins e ho, h3.ins e ho, h4.ins e ho, h5.ins e ho⟩
theorem RcAt.ins {a d} (e : But o H H') (ho : H o = some (.ins C dx fs)) (h : RcAt K H a d) : RcAt K H' a d := by
  obtain ⟨p, h1, h2⟩ := h
  exact ⟨p, insTup e ho h1, h2.ins e ho⟩
theorem RcAt.but {xs : List V} {a d} (e : But o H H') (ho : H o = some (.lst xs)) (h : RcAt K H a d) : RcAt K H' a d := by
  obtain ⟨p, h1, h2⟩ := h
  exact ⟨p, butTup e ho h1, h2.but e ho⟩
end
theorem inTk {C p l : Addr} {H : Hp} {rs : List Int} (h : TkAt C H p l rs) : ∃ dx i, H p = some (.ins C dx (tf l i)) := by
  obtain ⟨dx, _, i, h, _⟩ := h
  exact ⟨dx, _, h⟩
theorem lsTk {C p l : Addr} {H : Hp} {rs : List Int} (h : TkAt C H p l rs) : ∃ xs, H l = some (.lst xs) := by
  obtain ⟨dx, _, i, _, h, _⟩ := h
  exact ⟨_, h⟩
theorem evs_len_le : ∀ rs : List Ev, rs.length ≤ (rs.flatMap numE).length
  | [] => Nat.zero_le _
  | a :: r => by
    have ih := evs_len_le r
    rw [List.flatMap_cons, List.length_append, List.length_cons]
    have : 1 ≤ (numE a).length := by unfold numE; simp only [List.length_append, List.length_cons]; omega
    omega
theorem rows_len_le : ∀ rs : List (List Ev), rs.length ≤ (rs.flatMap numEs).length
  | [] => Nat.zero_le _
  | a :: r => by
    have ih := rows_len_le r
    rw [List.flatMap_cons, List.length_append, List.length_cons]
    have : 1 ≤ (numEs a).length := by unfold numEs; rw [List.length_cons]; omega
    omega
end Vs

namespace Vs
open PySem PySem.Spec PyProof.Rows L2
/-! ### == and != of data, whatever its texts -/
section
variable {X : Cx}
def rEqP (K : PySem.W.Frag) : R2 := fun x y H Q => ∃ d e, Dp K H x d ∧ Dp K H y e ∧ d.plain = true ∧ e.plain = true ∧ d.depth ≤ 64 ∧ Q (.bl (PyData.eqv d e)) H
def rNeP (K : PySem.W.Frag) : R2 := fun x y H Q => ∃ d e, Dp K H x d ∧ Dp K H y e ∧ d.plain = true ∧ e.plain = true ∧ d.depth ≤ 64 ∧ Q (.bl (!PyData.eqv d e)) H
theorem op_eqP (hu : X.A.units + 64 < cLine) : OpR X (compareOp .Eq) (rEqP X.K) := by
  intro pins s σ H x y v u Q I rx ry h
  obtain ⟨d, e, hd, he, sd, se, hz, q⟩ := h
  obtain ⟨as, r1⟩ := Dp.reads I d x v hd rx
  obtain ⟨bs, r2⟩ := Dp.reads I e y u he ry
  exact SeqAt.eq_plain r1 r2 sd se (Nat.lt_of_le_of_lt (Nat.add_le_add_left (Nat.le_trans (Nat.min_le_left _ _) hz) _) hu) ⟨.bl _, H, I, rfl, q⟩
theorem op_neP (hu : X.A.units + 64 < cLine) : OpR X (compareOp .NotEq) (rNeP X.K) := by
  intro pins s σ H x y v u Q I rx ry h
  obtain ⟨d, e, hd, he, sd, se, hz, q⟩ := h
  obtain ⟨as, r1⟩ := Dp.reads I d x v hd rx
  obtain ⟨bs, r2⟩ := Dp.reads I e y u he ry
  exact SeqAt.ne_plain r1 r2 sd se (Nat.lt_of_le_of_lt (Nat.add_le_add_left (Nat.le_trans (Nat.min_le_left _ _) hz) _) hu) ⟨.bl _, H, I, rfl, q⟩
end
theorem strs_all {K : PySem.W.Frag} {H : Hp} : ∀ ss : List Str, DpAll K H (ss.map V.str) (ss.map PyData.str)
  | [] => .nil
  | s :: r => .cons (.str s) (strs_all r)
theorem strs_dp {K : PySem.W.Frag} {H : Hp} {a : Addr} {ss : List Str} (h : SqL K H a (ss.map V.str)) : Dp K H (.ref a) (.list (ss.map PyData.str)) := .lst h (strs_all ss)
theorem strs_plain : ∀ ss : List Str, PyData.plainAll (ss.map PyData.str) = true
  | [] => rfl
  | s :: r => by
    show (true && PyData.plainAll (r.map PyData.str)) = true
    rw [strs_plain r]
    rfl
theorem strs_depth : ∀ ss : List Str, PyData.depthAll (ss.map PyData.str) ≤ 1
  | [] => Nat.zero_le _
  | s :: r => by
    show max (PyData.depth (PyData.str s)) (PyData.depthAll (r.map PyData.str)) ≤ 1
    have := strs_depth r
    have h : PyData.depth (PyData.str s) ≤ 1 := by simp [PyData.depth]
    omega
theorem strl_plain (ss : List Str) : (PyData.list (ss.map PyData.str)).plain = true := strs_plain ss
theorem strl_depth (ss : List Str) : (PyData.list (ss.map PyData.str)).depth ≤ 64 := by
  have := strs_depth ss
  simp only [PyData.depth]
  omega
end Vs

namespace Vs
open PySem PySem.Spec PyProof.Rows L2

def topS (i : Nat) : Stmt := PySem.Challenge.pw_whensure_k11_births.main.body.getD i (.Pass ⟨0, 0, 0, 0⟩)
abbrev s_birth : Stmt := topS 2
abbrev nm_birth : List Str := ["frame"]
theorem sc_birth : FnScope nm_birth ["frame"] (defScope s_birth) := ⟨rfl, rfl, rfl, by decide +kernel, rfl, by decide +kernel, by decide +kernel⟩
abbrev s_first_view : Stmt := topS 3
abbrev nm_first_view : List Str := ["frame", "_"]
theorem sc_first_view : FnScope nm_first_view ["frame"] (defScope s_first_view) := ⟨rfl, rfl, rfl, by decide +kernel, rfl, by decide +kernel, by decide +kernel⟩
abbrev s__law_cell : Stmt := topS 7
abbrev nm__law_cell : List Str := ["script", "k", "cell", "mixed", "more"]
theorem sc__law_cell : FnScope nm__law_cell ["script", "k"] (defScope s__law_cell) := ⟨rfl, rfl, rfl, by decide +kernel, rfl, by decide +kernel, by decide +kernel⟩
abbrev s__law_same : Stmt := topS 8
abbrev nm__law_same : List Str := ["actual", "expected", "k"]
theorem sc__law_same : FnScope nm__law_same ["actual", "expected"] (defScope s__law_same) := ⟨rfl, rfl, rfl, by decide +kernel, rfl, by decide +kernel, by decide +kernel⟩
abbrev s_Frame___init__ : Stmt := inClass (topS 5) 0
abbrev nm_Frame___init__ : List Str := ["self", "devices", "clocks", "links", "sources", "faults"]
theorem sc_Frame___init__ : FnScope nm_Frame___init__ ["self", "devices", "clocks", "links", "sources", "faults"] (defScope s_Frame___init__) := ⟨rfl, rfl, rfl, by decide +kernel, rfl, by decide +kernel, by decide +kernel⟩
abbrev s_law : Stmt := topS 9
abbrev nm_law : List Str := ["script", "size", "names", "clocks", "k", "frame", "expected", "view", "place", "row"]
theorem sc_law : FnScope nm_law ["script"] (defScope s_law) := ⟨rfl, rfl, rfl, by decide +kernel, rfl, by decide +kernel, by decide +kernel⟩
/-- what the top has made of the class -/
structure Ck_Frame (K : PySem.W.Frag) (mg : Str → Option Value) (C : Addr) : Prop where
  cl : Cls K C
  mg : mg "Frame" = some (.ref C)
  n_devices : NoAttr K C "devices"
  n_clocks : NoAttr K C "clocks"
  n_links : NoAttr K C "links"
  n_sources : NoAttr K C "sources"
  n_faults : NoAttr K C "faults"
/-- its attributes -/
def ff_Frame (v_devices v_clocks v_links v_sources v_faults : V) : List (Str × V) := putF "faults" v_faults (putF "sources" v_sources (putF "links" v_links (putF "clocks" v_clocks (putF "devices" v_devices ([])))))
theorem lk_Frame_devices {v_devices v_clocks v_links v_sources v_faults : V} : (ff_Frame v_devices v_clocks v_links v_sources v_faults).lookup ("devices" : Str) = some v_devices := by
  unfold ff_Frame; rw [lookup_putF, if_neg (by decide +kernel : ¬ (("devices" : Str) = "faults"))]; rw [lookup_putF, if_neg (by decide +kernel : ¬ (("devices" : Str) = "sources"))]; rw [lookup_putF, if_neg (by decide +kernel : ¬ (("devices" : Str) = "links"))]; rw [lookup_putF, if_neg (by decide +kernel : ¬ (("devices" : Str) = "clocks"))]; rw [lookup_putF, if_pos rfl]
theorem lk_Frame_clocks {v_devices v_clocks v_links v_sources v_faults : V} : (ff_Frame v_devices v_clocks v_links v_sources v_faults).lookup ("clocks" : Str) = some v_clocks := by
  unfold ff_Frame; rw [lookup_putF, if_neg (by decide +kernel : ¬ (("clocks" : Str) = "faults"))]; rw [lookup_putF, if_neg (by decide +kernel : ¬ (("clocks" : Str) = "sources"))]; rw [lookup_putF, if_neg (by decide +kernel : ¬ (("clocks" : Str) = "links"))]; rw [lookup_putF, if_pos rfl]
theorem lk_Frame_links {v_devices v_clocks v_links v_sources v_faults : V} : (ff_Frame v_devices v_clocks v_links v_sources v_faults).lookup ("links" : Str) = some v_links := by
  unfold ff_Frame; rw [lookup_putF, if_neg (by decide +kernel : ¬ (("links" : Str) = "faults"))]; rw [lookup_putF, if_neg (by decide +kernel : ¬ (("links" : Str) = "sources"))]; rw [lookup_putF, if_pos rfl]
theorem lk_Frame_sources {v_devices v_clocks v_links v_sources v_faults : V} : (ff_Frame v_devices v_clocks v_links v_sources v_faults).lookup ("sources" : Str) = some v_sources := by
  unfold ff_Frame; rw [lookup_putF, if_neg (by decide +kernel : ¬ (("sources" : Str) = "faults"))]; rw [lookup_putF, if_pos rfl]
theorem lk_Frame_faults {v_devices v_clocks v_links v_sources v_faults : V} : (ff_Frame v_devices v_clocks v_links v_sources v_faults).lookup ("faults" : Str) = some v_faults := by
  unfold ff_Frame; rw [lookup_putF, if_pos rfl]
theorem no_Frame {v_devices v_clocks v_links v_sources v_faults : V} {m : Str} (h_devices : ¬ m = "devices" := by decide +kernel) (h_clocks : ¬ m = "clocks" := by decide +kernel) (h_links : ¬ m = "links" := by decide +kernel) (h_sources : ¬ m = "sources" := by decide +kernel) (h_faults : ¬ m = "faults" := by decide +kernel) : (ff_Frame v_devices v_clocks v_links v_sources v_faults).lookup m = none := by
  unfold ff_Frame; rw [lookup_putF, if_neg h_faults]; rw [lookup_putF, if_neg h_sources]; rw [lookup_putF, if_neg h_links]; rw [lookup_putF, if_neg h_clocks]; rw [lookup_putF, if_neg h_devices]; rfl
section
variable {P : Program} {w : World} {K : PySem.W.Frag} {mg : Str → Option Value} {base : Heap}
/-- the birth of n devices -/
def birthEv (n : Nat) : Ev := ⟨false, [], [], ⟨0, []⟩, List.replicate n 1⟩
theorem birth_ok {n : Nat} (h : n ≤ 6) : (birthEv n).Ok :=
  ⟨Nat.zero_le _, Nat.zero_le _, by show (List.replicate n (1 : Int)).length ≤ 6; rw [List.length_replicate]; exact h, fun n h => by simp [birthEv] at h, fun n h => by simp [birthEv] at h,
    fun n h => by rw [List.eq_of_mem_replicate h]; exact ⟨In18.small (n := 1) (by decide), by decide⟩,
    ⟨by show 0 < 9; decide, Nat.zero_le _, fun _ => rfl, fun n h => by simp [birthEv] at h, fun i n h => by simp [birthEv] at h⟩⟩
theorem ones (n : Nat) : (List.replicate n [V.int 1]).flatten = (List.replicate n (1 : Int)).map V.int := by
  induction n with
  | zero => rfl
  | succ n ih => rw [List.replicate_succ, List.flatten_cons, ih, List.replicate_succ]; rfl
def sp_birth (K : PySem.W.Frag) (CF : Addr) : Sp := fun vs H Q _ => ∃ (p dx d1 : Addr) (v2 v3 v4 v5 : V) (xs : List V), vs = [.ref p] ∧ H p = some (.ins CF dx (ff_Frame (.ref d1) v2 v3 v4 v5)) ∧ SqL K H d1 xs ∧ xs.length ≤ 6 ∧ ∀ (a : Addr) (H' : Hp), Same H H' → EvAt K H' a (birthEv xs.length) → Q (.ref a) H'
theorem ok_birth {f : Addr} {fd : FuncData} {CF : Addr} (TF : Ck_Frame K mg CF) (D : Df K mg "birth" s_birth ["frame"] f fd) (T : Txt K mg) : FnOk P w K mg base CX0 1 f fd ["frame"] (sp_birth K CF) := by
  refine D.F.ok sc_birth (fun vs H Q E h => ?_) (fun cdv A outer s H vs Q E hr h => ?_)
  · obtain ⟨p, dx, d1, v2, v3, v4, v5, xs, rfl, _⟩ := h
    rfl
  obtain ⟨p, dx, d1, v2, v3, v4, v5, xs, rfl, hp, hx, hn, q⟩ := h
  refine ⟨_, (pss_one (ps_ret (pe_tup (pa_cons pe_bl (pa_cons (pe_tup pa_nil) (pa_cons (pe_tup pa_nil) (pa_cons (pe_tup (pa_cons pe_str pa_nil)) (pa_cons (pe_callTy call_tuple_of rfl T.tuple (by decide +kernel) (pa_cons (pe_op op_rep (pe_lst (pa_cons pe_int pa_nil)) (pe_callB call_len_seq rfl T.len PySem.boot_len (pa_cons (pe_fld (pv 0) rfl) pa_nil))) pa_nil)) pa_nil)))))))), ?_⟩
  refine ⟨(by show 0 ≤ sizeLine; decide), fun t1 n1 => ⟨(by show 0 ≤ sizeLine; decide), fun t2 n2 => ⟨(by show 1 ≤ sizeLine; decide), fun t3 n3 => ⟨(by show 1 ≤ sizeLine; decide), fun l1 n4 => ?_⟩⟩⟩⟩
  have s1 : Same H (upd H t1 (.tup [])) := same_upd n1
  have e1 : (upd H t1 (.tup [])) t1 = some (.tup []) := upd_same
  generalize upd H t1 (.tup []) = H1 at *
  have s2 : Same H1 (upd H1 t2 (.tup [])) := same_upd n2
  have e2 : (upd H1 t2 (.tup [])) t2 = some (.tup []) := upd_same
  generalize upd H1 t2 (.tup []) = H2 at *
  have s3 : Same H2 (upd H2 t3 (.tup [V.str "note"])) := same_upd n3
  have e3 : (upd H2 t3 (.tup [V.str "note"])) t3 = some (.tup [V.str "note"]) := upd_same
  generalize upd H2 t3 (.tup [V.str "note"]) = H3 at *
  have s4 : Same H3 (upd H3 l1 (.lst [V.int 1])) := same_upd n4
  have e4 : (upd H3 l1 (.lst [V.int 1])) l1 = some (.lst [V.int 1]) := upd_same
  generalize upd H3 l1 (.lst [V.int 1]) = H4 at *
  have s04 := s1.trans (s2.trans (s3.trans s4))
  refine ⟨_, rfl, p, CF, dx, _, _, rfl, s04 _ _ hp, TF.cl, TF.n_devices, lk_Frame_devices, _, _, rfl, .inl (s04.seq hx), l1, _, _, rfl, rfl, e4, by omega, by omega, by rw [show sizeLine = 16777216 from rfl]; simp only [List.length_cons, List.length_nil]; omega, fun l2 n5 => ?_⟩
  rw [show ((xs.length : Nat) : Int).toNat = xs.length from by omega, ones]
  have s5 : Same H4 (upd H4 l2 (.lst ((List.replicate xs.length (1 : Int)).map V.int))) := same_upd n5
  have e5 : (upd H4 l2 (.lst ((List.replicate xs.length (1 : Int)).map V.int))) l2 = some (.lst ((List.replicate xs.length (1 : Int)).map V.int)) := upd_same
  generalize upd H4 l2 (.lst ((List.replicate xs.length (1 : Int)).map V.int)) = H5 at *
  refine ⟨_, _, rfl, .inl ⟨SqL.of e5, fun t4 n6 => ⟨(by show 5 ≤ sizeLine; decide), fun r n7 => ?_⟩⟩⟩
  have s6 : Same H5 (upd H5 t4 (.tup ((List.replicate xs.length (1 : Int)).map V.int))) := same_upd n6
  have s7 : Same (upd H5 t4 (.tup ((List.replicate xs.length (1 : Int)).map V.int))) (upd (upd H5 t4 (.tup ((List.replicate xs.length (1 : Int)).map V.int))) r (.tup [V.bl false, V.ref t1, V.ref t2, V.ref t3, V.ref t4])) := same_upd n7
  have s57 := s5.trans (s6.trans s7)
  have s37 := s4.trans s57
  exact q r _ (s04.trans s57) ⟨t1, t2, t3, t4, SqT.of upd_same, SqT.of ((s2.trans (s3.trans s37)) _ _ e1), SqT.of ((s3.trans s37) _ _ e2), ⟨_, _, rfl, SqT.of (s37 _ _ e3), .inr ⟨of_decide_eq_true rfl, rfl⟩⟩, SqT.of (s7 _ _ upd_same)⟩
def sp_first_view (K : PySem.W.Frag) (CF : Addr) : Sp := fun vs H Q _ => ∃ (p dx d1 : Addr) (v2 v3 v4 v5 : V) (xs : List V), vs = [.ref p] ∧ H p = some (.ins CF dx (ff_Frame (.ref d1) v2 v3 v4 v5)) ∧ SqL K H d1 xs ∧ xs.length ≤ 6 ∧
  ∀ (v : Addr) (rows : List Addr) (H' : Hp), Same H H' → H v = none → H' v = some (.lst (rows.map V.ref)) → Each (RowAt K H') rows (List.replicate xs.length [birthEv xs.length]) → v ∉ rows → (∀ r ∈ rows, H r = none) → Q (.ref v) H'
theorem ok_first_view {f : Addr} {fd : FuncData} {CF : Addr} (TF : Ck_Frame K mg CF) (D : Df K mg "first_view" s_first_view ["frame"] f fd) (T : Txt K mg) {f_birth : Addr} {fd_birth : FuncData} (D_birth : Df K mg "birth" s_birth ["frame"] f_birth fd_birth) (G_birth : FnOk P w K mg base CX0 1 f_birth fd_birth ["frame"] (sp_birth K CF)) : FnOk P w K mg base CX0 2 f fd ["frame"] (sp_first_view K CF) := by
  refine D.F.ok sc_first_view (fun vs H Q E h => ?_) (fun cdv A outer s H vs Q E hr h => ?_)
  · obtain ⟨p, dx, d1, v2, v3, v4, v5, xs, rfl, _⟩ := h
    rfl
  obtain ⟨p, dx, d1, v2, v3, v4, v5, xs, rfl, hp, hx, hn, q⟩ := h
  refine ⟨_, (pss_one (ps_ret (pe_lc (own := [("_", 1)]) (g := gName 1) (tt := tYes) rfl sc_first_view.nd (pi_list (pe_fld (pv 0) rfl)) (blkOk_by (own := [("_", 1)]) (N := nm_first_view) (sc := defScope s_first_view) (by decide +kernel)) (fun _ _ _ _ _ => (pg_name (i := 1) sc_first_view.nd rfl (Or.inl rfl))) (fun _ _ _ _ _ => pts_nil) (fun _ _ _ _ _ => (pe_lst (pa_cons (pe_call G_birth (hr.mono (by decide)) rfl D_birth.m D_birth.F.kp D_birth.b .nil pass0 (pa_cons (pv 0) pa_nil)) pa_nil)))))), ?_⟩
  refine ⟨_, rfl, p, CF, dx, _, _, rfl, hp, TF.cl, TF.n_devices, lk_Frame_devices, d1, rfl, ⟨_, hx⟩, fun D hD => lc_list (K := K) (a := d1) (xs := xs) (fun i H' => ∃ rows : List Addr, Same H H' ∧ H' D = some (.lst (rows.map V.ref)) ∧ Each (RowAt K H') rows (List.replicate i [birthEv xs.length]) ∧ D ∉ rows ∧ ∀ r ∈ rows, H r = none) ⟨[], same_upd hD, upd_same, Each.nil, by simp, fun r h => by simp at h⟩ (fun i H' _ ⟨_, sm, _⟩ => sm.seq hx) ?_ ?_⟩
  · rintro i x H' hi ⟨rows, sm, eD, hE, nD, hf⟩
    have hil := (List.getElem?_eq_some_iff.mp hi).1
    refine ⟨rfl, _, rfl, p, dx, d1, v2, v3, v4, v5, xs, rfl, sm _ _ hp, sm.seq hx, hn, fun a H2 s2 he => ⟨(by show 1 ≤ sizeLine; decide), fun u hu => ?_⟩⟩
    have s3 : Same H2 (upd H2 u (.lst [V.ref a])) := same_upd hu
    have eD3 := s3 _ _ (s2 _ _ eD)
    have nDu : D ≠ u := ne_of_none (s2 _ _ eD) hu
    have s23 := s2.trans s3
    have bD : But D (upd H2 u (.lst [V.ref a])) (upd (upd H2 u (.lst [V.ref a])) D (.lst (rows.map V.ref ++ [V.ref u]))) := But.set
    have hel := hE.1
    rw [List.length_replicate] at hel
    refine ⟨_, eD3, by rw [List.length_map]; exact sizes' (by omega), rows ++ [u], fun c w hc => bD _ _ (ne_of_none hc hD) (s23 _ _ (sm _ _ hc)), ?_, ?_, ?_, fun r hr2 => ?_⟩
    · rw [upd_same, List.map_append]
      rfl
    · rw [List.replicate_succ']
      refine Each.snoc ⟨hE.1, fun j r es h1 h2 => ?_⟩ ⟨[a], bD _ _ nDu.symm upd_same, Each.snoc (as := []) (xs := []) Each.nil ((he.keep s3).but bD eD3)⟩
      obtain ⟨as, g1, g2⟩ := hE.2 j r es h1 h2
      exact ⟨as, bD _ _ (fun e => nD (by rw [← e]; exact List.mem_of_getElem? h1)) (s23 _ _ g1), g2.keep fun _ _ z => (EvAt.keep s23 z).but bD eD3⟩
    · intro h
      rcases List.mem_append.mp h with h | h
      · exact nD h
      · exact nDu (List.mem_singleton.mp h)
    · rcases List.mem_append.mp hr2 with h | h
      · exact hf r h
      · rw [List.mem_singleton.mp h]
        exact (sm.trans s2).free hu
  · rintro H' ⟨rows, sm, eD, hE, nD, hf⟩
    exact q D rows H' sm hD eD hE nD hf
def sp__law_cell (K : PySem.W.Frag) : Sp := fun vs H Q _ => ∃ (a : Addr) (ns : List Int) (k : Int), vs = [.ref a, .int k] ∧ SqL K H a (ns.map V.int) ∧ 0 ≤ k ∧ k ≤ 1000 ∧ ∀ c : Int, Q (.int c) H
theorem ok__law_cell {f : Addr} {fd : FuncData} (D : Df K mg "_law_cell" s__law_cell ["script", "k"] f fd) (T : Txt K mg) : FnOk P w K mg base CX0 1 f fd ["script", "k"] (sp__law_cell K) := by
  refine D.F.ok sc__law_cell (fun vs H Q E h => ?_) (fun cdv A outer s H vs Q E hr h => ?_)
  · obtain ⟨a, ns, k, rfl, _⟩ := h
    rfl
  obtain ⟨a, ns, k, rfl, hS, h0, h1, q⟩ := h
  refine ⟨_, (pss_cons (ps_set (i := 2) sc__law_cell.nd rfl (Or.inl rfl) pe_int)
    (pss_cons (ps_if (pt_cmpR op_lt (pv 1) (pe_callB call_len_seq rfl T.len PySem.boot_len (pa_cons (pv 0) pa_nil)) (nomark _))
      (pss_one (ps_set (i := 2) sc__law_cell.nd rfl (Or.inl rfl) (pe_ix ix_list (pv 0) (pv 1) (fun _ _ => rfl))))
      pss_nil)
    (pss_cons (ps_if (pt_cmpR op_lt (pv 2) pe_int (nomark _))
      (pss_one (ps_set (i := 2) sc__law_cell.nd rfl (Or.inl rfl) (pe_op op_sub pe_int (pe_op op_mul pe_int (pv 2)))))
      pss_nil)
    (pss_cons (ps_if (pt_cmpR op_ge (pv 2) (pe_op op_pow pe_int pe_int) (nomark _))
      (pss_one (ps_ret (pv 2)))
      pss_nil)
    (pss_cons (ps_set (i := 3) sc__law_cell.nd rfl (Or.inl rfl) (pe_op op_mod (pe_op op_add (pe_op op_add (pe_op op_mul (pe_callTy call_int1 rfl T.int (by decide +kernel) (pa_cons (pv 2) pa_nil)) pe_int) (pe_op op_mul (pv 1) pe_int)) pe_int) pe_int))
    (pss_cons (ps_set (i := 3) sc__law_cell.nd rfl (Or.inl rfl) (pe_op op_mod (pe_op op_add (pe_op op_add (pe_op op_mul (pv 3) pe_int) (pe_op op_mul (pv 1) pe_int)) pe_int) pe_int))
    (pss_cons (ps_set (i := 4) sc__law_cell.nd rfl (Or.inl rfl) (pe_op op_mod (pe_op op_add (pe_op op_mul (pv 3) pe_int) pe_int) pe_int))
    (pss_one (ps_ret (pe_op op_add (pe_op op_mul (pv 3) pe_int) (pv 4))))))))))), ?_⟩
  refine ⟨_, rfl, _, rfl, _, _, rfl, .inl hS, _, _, rfl, rfl, _, rfl, ?_⟩
  refine ite2 (fun c => ?_) (fun c => ?_)
  · have c' : k < (((ns.map V.int).length : Nat) : Int) := of_decide_eq_true c
    rw [List.length_map] at c'
    refine ⟨_, rfl, _, rfl, _, _, _, _, rfl, rfl, hS, at_of (j := k.toNat) (v := V.int (ns[k.toNat]'(by omega))) (by omega) (by rw [List.getElem?_map, List.getElem?_eq_getElem (by omega)]; rfl), ?_⟩
    refine ⟨_, rfl, _, _, rfl, rfl, _, rfl, ?_⟩
    refine ite2 (fun c2 => ?_) (fun c2 => ?_)
    · refine ⟨_, rfl, _, _, rfl, rfl, (.inl (by decide)), _, _, rfl, rfl, ?_⟩
      refine ⟨_, rfl, _, _, rfl, rfl, ⟨by decide, by decide, by decide⟩, _, _, rfl, rfl, _, rfl, ?_⟩
      refine ite2 (fun c => ⟨_, rfl, q _⟩) (fun c => ?_)
      refine ⟨_, rfl, .inl ⟨_, rfl, _, _, rfl, rfl, (.inr (by decide)), _, rfl, _, _, rfl, rfl, (.inr (by decide)), _, _, rfl, rfl, _, _, rfl, rfl, _, _, rfl, rfl, (posJ rfl), ?_⟩⟩
      refine ⟨_, rfl, _, _, rfl, rfl, (.inr (by decide)), _, rfl, _, _, rfl, rfl, (.inr (by decide)), _, _, rfl, rfl, _, _, rfl, rfl, _, _, rfl, rfl, (posJ rfl), ?_⟩
      refine ⟨_, rfl, _, _, rfl, rfl, (.inr (by decide)), _, _, rfl, rfl, _, _, rfl, rfl, (posJ rfl), ?_⟩
      exact ⟨_, rfl, _, _, rfl, rfl, (.inr (by decide)), _, rfl, _, _, rfl, rfl, q _⟩
    · refine ⟨_, rfl, _, _, rfl, rfl, ⟨by decide, by decide, by decide⟩, _, _, rfl, rfl, _, rfl, ?_⟩
      refine ite2 (fun c => ⟨_, rfl, q _⟩) (fun c => ?_)
      refine ⟨_, rfl, .inl ⟨_, rfl, _, _, rfl, rfl, (.inr (by decide)), _, rfl, _, _, rfl, rfl, (.inr (by decide)), _, _, rfl, rfl, _, _, rfl, rfl, _, _, rfl, rfl, (posJ rfl), ?_⟩⟩
      refine ⟨_, rfl, _, _, rfl, rfl, (.inr (by decide)), _, rfl, _, _, rfl, rfl, (.inr (by decide)), _, _, rfl, rfl, _, _, rfl, rfl, _, _, rfl, rfl, (posJ rfl), ?_⟩
      refine ⟨_, rfl, _, _, rfl, rfl, (.inr (by decide)), _, _, rfl, rfl, _, _, rfl, rfl, (posJ rfl), ?_⟩
      exact ⟨_, rfl, _, _, rfl, rfl, (.inr (by decide)), _, rfl, _, _, rfl, rfl, q _⟩
  · refine ⟨_, rfl, _, _, rfl, rfl, _, rfl, ?_⟩
    refine ite2 (fun c2 => absurd (of_decide_eq_true c2) (by omega)) (fun c2 => ?_)
    refine ⟨_, rfl, _, _, rfl, rfl, ⟨by decide, by decide, by decide⟩, _, _, rfl, rfl, _, rfl, ?_⟩
    refine ite2 (fun c => ⟨_, rfl, q _⟩) (fun c => ?_)
    refine ⟨_, rfl, .inl ⟨_, rfl, _, _, rfl, rfl, (.inr (by decide)), _, rfl, _, _, rfl, rfl, (.inr (by decide)), _, _, rfl, rfl, _, _, rfl, rfl, _, _, rfl, rfl, (posJ rfl), ?_⟩⟩
    refine ⟨_, rfl, _, _, rfl, rfl, (.inr (by decide)), _, rfl, _, _, rfl, rfl, (.inr (by decide)), _, _, rfl, rfl, _, _, rfl, rfl, _, _, rfl, rfl, (posJ rfl), ?_⟩
    refine ⟨_, rfl, _, _, rfl, rfl, (.inr (by decide)), _, _, rfl, rfl, _, _, rfl, rfl, (posJ rfl), ?_⟩
    exact ⟨_, rfl, _, _, rfl, rfl, (.inr (by decide)), _, rfl, _, _, rfl, rfl, q _⟩
def sp__law_same (K : PySem.W.Frag) (n : Nat) : Sp := fun vs H Q _ => ∃ x y, vs = [x, y] ∧ Sim K H n x y ∧ Q (.bl true) H
theorem ok__law_same_step {f : Addr} {fd : FuncData} (D : Df K mg "_law_same" s__law_same ["actual", "expected"] f fd) (T : Txt K mg) {n : Nat} (G__law_same : FnOk P w K mg base CX0 n f fd ["actual", "expected"] (sp__law_same K n)) : FnOk P w K mg base CX0 (n + 1) f fd ["actual", "expected"] (sp__law_same K (n + 1)) := by
  refine D.F.ok sc__law_same (fun vs H Q E h => ?_) (fun cdv A outer s H vs Q E hr h => ?_)
  · obtain ⟨x, y, rfl, _⟩ := h
    rfl
  obtain ⟨x, y, rfl, hs, q⟩ := h
  refine ⟨_, (pss_cons (ps_if (pt_val (pe_callB call_isi rfl T.isinstance (by decide +kernel) (pa_cons (pv 1) (pa_cons (pe_bltn (v := V.ty "bool") (by rfl) T.bool (by decide +kernel) rfl) pa_nil))))
      (pss_one (ps_ret (pe_and (pe_callB call_isi rfl T.isinstance (by decide +kernel) (pa_cons (pv 0) (pa_cons (pe_bltn (v := V.ty "bool") (by rfl) T.bool (by decide +kernel) rfl) pa_nil))) (pe_one (pe_cmpR op_eq (pv 0) (pv 1) (nomark _))))))
      pss_nil)
    (pss_cons (ps_if (pt_val (pe_callB call_isi rfl T.isinstance (by decide +kernel) (pa_cons (pv 1) (pa_cons (pe_bltn (v := V.ty "int") (by rfl) T.int (by decide +kernel) rfl) pa_nil))))
      (pss_one (ps_ret (pe_and (pe_callB call_isi rfl T.isinstance (by decide +kernel) (pa_cons (pv 0) (pa_cons (pe_bltn (v := V.ty "int") (by rfl) T.int (by decide +kernel) rfl) pa_nil))) (pe_and (pe_not (pe_callB call_isi rfl T.isinstance (by decide +kernel) (pa_cons (pv 0) (pa_cons (pe_bltn (v := V.ty "bool") (by rfl) T.bool (by decide +kernel) rfl) pa_nil)))) (pe_one (pe_cmpR op_eq (pv 0) (pv 1) (nomark _)))))))
      pss_nil)
    (pss_cons (ps_if (pt_val (pe_callB call_isi rfl T.isinstance (by decide +kernel) (pa_cons (pv 1) (pa_cons (pe_bltn (v := V.ty "str") (by rfl) T.str (by decide +kernel) rfl) pa_nil))))
      (pss_one (ps_ret (pe_and (pe_callB call_isi rfl T.isinstance (by decide +kernel) (pa_cons (pv 0) (pa_cons (pe_bltn (v := V.ty "str") (by rfl) T.str (by decide +kernel) rfl) pa_nil))) (pe_one (pe_cmpR op_eq (pv 0) (pv 1) (nomark _))))))
      pss_nil)
    (pss_cons (ps_if (PW.pt (pw_and (pt_val (pe_callB call_isi rfl T.isinstance (by decide +kernel) (pa_cons (pv 1) (pa_cons (pe_bltn (v := V.ty "tuple") (by rfl) T.tuple (by decide +kernel) rfl) pa_nil)))) (pw_and1 (pt_not (pt_val (pe_callB call_isi rfl T.isinstance (by decide +kernel) (pa_cons (pv 0) (pa_cons (pe_bltn (v := V.ty "tuple") (by rfl) T.tuple (by decide +kernel) rfl) pa_nil))))))))
      (pss_one (ps_ret pe_bl))
      pss_nil)
    (pss_cons (ps_if (PW.pt (pw_and (pt_val (pe_callB call_isi rfl T.isinstance (by decide +kernel) (pa_cons (pv 1) (pa_cons (pe_bltn (v := V.ty "list") (by rfl) T.list (by decide +kernel) rfl) pa_nil)))) (pw_and1 (pt_not (pt_val (pe_callB call_isi rfl T.isinstance (by decide +kernel) (pa_cons (pv 0) (pa_cons (pe_bltn (v := V.ty "list") (by rfl) T.list (by decide +kernel) rfl) pa_nil))))))))
      (pss_one (ps_ret pe_bl))
      pss_nil)
    (pss_cons (ps_if (pt_cmpR op_ne (pe_callB call_len_seq rfl T.len PySem.boot_len (pa_cons (pv 0) pa_nil)) (pe_callB call_len_seq rfl T.len PySem.boot_len (pa_cons (pv 1) pa_nil)) (nomark _))
      (pss_one (ps_ret pe_bl))
      pss_nil)
    (pss_cons (ps_for PassesOwn.never rfl (pi_range1 rfl T.range (pa_cons (pe_callB call_len_seq rfl T.len PySem.boot_len (pa_cons (pv 1) pa_nil)) pa_nil)) (pg_name (i := 2) sc__law_same.nd rfl (Or.inl rfl))
      (pss_one (ps_if (pt_not (pt_val (pe_call G__law_same hr rfl D.m D.F.kp D.b .nil pass0 (pa_cons (pe_ix ix_seq (pv 0) (pv 2) (fun _ _ => rfl)) (pa_cons (pe_ix ix_seq (pv 1) (pv 2) (fun _ _ => rfl)) pa_nil)))))
      (pss_one (ps_ret pe_bl))
      pss_nil)))
    (pss_one (ps_ret pe_bl))))))))), ?_⟩
  rcases hs with ⟨b, rfl, rfl⟩ | ⟨i, rfl, rfl⟩ | ⟨z, rfl, rfl⟩ | ⟨a, b, xs, ys, rfl, rfl, hT, hl, hz, hs⟩
  · refine ⟨_, rfl, _, _, _, _, _, rfl, ClsV.ty "bool", .base (TyOf.bl _), kit_ty (r := true) (by decide +kernel), _, rfl, iteT ?_⟩
    refine ⟨_, rfl, _, _, _, _, _, rfl, ClsV.ty "bool", .base (TyOf.bl _), kit_ty (r := true) (by decide +kernel), _, rfl, iteT ?_⟩
    refine ⟨_, rfl, _, rfl, rfl, ?_⟩
    have e : decide (V.bl b = V.bl b) = true := decide_eq_true rfl
    show Q (.bl (decide (V.bl b = V.bl b))) H
    rw [e]
    exact q
  · refine ⟨_, rfl, _, _, _, _, _, rfl, ClsV.ty "bool", .base (TyOf.int _), kit_ty (r := false) (by decide +kernel), _, rfl, iteF ?_⟩
    refine ⟨_, rfl, _, _, _, _, _, rfl, ClsV.ty "int", .base (TyOf.int _), kit_ty (r := true) (by decide +kernel), _, rfl, iteT ?_⟩
    refine ⟨_, rfl, _, _, _, _, _, rfl, ClsV.ty "int", .base (TyOf.int _), kit_ty (r := true) (by decide +kernel), _, rfl, iteT ?_⟩
    refine ⟨_, rfl, _, _, _, _, _, rfl, ClsV.ty "bool", .base (TyOf.int _), kit_ty (r := false) (by decide +kernel), _, rfl, _, rfl, iteT ?_⟩
    refine ⟨_, rfl, _, rfl, rfl, ?_⟩
    have e : decide (V.int i = V.int i) = true := decide_eq_true rfl
    show Q (.bl (decide (V.int i = V.int i))) H
    rw [e]
    exact q
  · refine ⟨_, rfl, _, _, _, _, _, rfl, ClsV.ty "bool", .base (TyOf.str _), kit_ty (r := false) (by decide +kernel), _, rfl, iteF ?_⟩
    refine ⟨_, rfl, _, _, _, _, _, rfl, ClsV.ty "int", .base (TyOf.str _), kit_ty (r := false) (by decide +kernel), _, rfl, iteF ?_⟩
    refine ⟨_, rfl, _, _, _, _, _, rfl, ClsV.ty "str", .base (TyOf.str _), kit_ty (r := true) (by decide +kernel), _, rfl, iteT ?_⟩
    refine ⟨_, rfl, _, _, _, _, _, rfl, ClsV.ty "str", .base (TyOf.str _), kit_ty (r := true) (by decide +kernel), _, rfl, iteT ?_⟩
    refine ⟨_, rfl, _, rfl, rfl, ?_⟩
    have e : decide (V.str z = V.str z) = true := decide_eq_true rfl
    show Q (.bl (decide (V.str z = V.str z))) H
    rw [e]
    exact q
  · rcases hT with ⟨h1, h2⟩ | ⟨h1, h2⟩
    · refine ⟨_, rfl, _, _, _, _, _, rfl, ClsV.ty "bool", tyT h2, kit_ty (r := false) (by decide +kernel), _, rfl, iteF ?_⟩
      refine ⟨_, rfl, _, _, _, _, _, rfl, ClsV.ty "int", tyT h2, kit_ty (r := false) (by decide +kernel), _, rfl, iteF ?_⟩
      refine ⟨_, rfl, _, _, _, _, _, rfl, ClsV.ty "str", tyT h2, kit_ty (r := false) (by decide +kernel), _, rfl, iteF ?_⟩
      refine ⟨_, rfl, _, _, _, _, _, rfl, ClsV.ty "tuple", tyT h2, kit_ty (r := true) (by decide +kernel), _, rfl, iteT ?_⟩
      refine ⟨_, rfl, _, _, _, _, _, rfl, ClsV.ty "tuple", tyT h1, kit_ty (r := true) (by decide +kernel), _, rfl, iteF ?_⟩
      refine ⟨_, rfl, _, _, _, _, _, rfl, ClsV.ty "list", tyT h2, kit_ty (r := false) (by decide +kernel), _, rfl, iteF (iteF ?_)⟩
      refine ⟨_, rfl, _, _, rfl, .inr h1, _, rfl, _, _, rfl, .inr h2, rfl, _, rfl, ?_⟩
      refine iteNS (by rw [hl]) ?_
      refine ⟨_, rfl, _, _, rfl, .inr h2, _, rfl, by omega, by omega, for_range (lo := 0) (n := ((ys.length : Nat) : Int).toNat) (fun i σ H' => ∃ k, σ = [some (.ref a), some (.ref b), k] ∧ H' = H) ⟨none, rfl, rfl⟩ ?_ ?_⟩
      · rintro i σ H' hi ⟨k, rfl, rfl⟩
        have hi1 : i < xs.length := by omega
        have hi2 : i < ys.length := by omega
        refine ⟨_, rfl, _, rfl, .inr (.inl ⟨_, _, _, xs[i], rfl, rfl, h1, at_of (j := i) (by omega) (List.getElem?_eq_getElem hi1), _, rfl, _, rfl, .inr (.inl ⟨_, _, _, ys[i], rfl, rfl, h2, at_of (j := i) (by omega) (List.getElem?_eq_getElem hi2), xs[i], ys[i], rfl, hs i _ _ (List.getElem?_eq_getElem hi1) (List.getElem?_eq_getElem hi2), _, rfl, iteF ?_⟩)⟩)⟩
        exact ⟨_, rfl, rfl⟩
      · rintro σ H' ⟨k, rfl, rfl⟩
        exact q
    · refine ⟨_, rfl, _, _, _, _, _, rfl, ClsV.ty "bool", tyL h2, kit_ty (r := false) (by decide +kernel), _, rfl, iteF ?_⟩
      refine ⟨_, rfl, _, _, _, _, _, rfl, ClsV.ty "int", tyL h2, kit_ty (r := false) (by decide +kernel), _, rfl, iteF ?_⟩
      refine ⟨_, rfl, _, _, _, _, _, rfl, ClsV.ty "str", tyL h2, kit_ty (r := false) (by decide +kernel), _, rfl, iteF ?_⟩
      refine ⟨_, rfl, _, _, _, _, _, rfl, ClsV.ty "tuple", tyL h2, kit_ty (r := false) (by decide +kernel), _, rfl, iteF (iteF ?_)⟩
      refine ⟨_, rfl, _, _, _, _, _, rfl, ClsV.ty "list", tyL h2, kit_ty (r := true) (by decide +kernel), _, rfl, iteT ?_⟩
      refine ⟨_, rfl, _, _, _, _, _, rfl, ClsV.ty "list", tyL h1, kit_ty (r := true) (by decide +kernel), _, rfl, iteF ?_⟩
      refine ⟨_, rfl, _, _, rfl, .inl h1, _, rfl, _, _, rfl, .inl h2, rfl, _, rfl, ?_⟩
      refine iteNS (by rw [hl]) ?_
      refine ⟨_, rfl, _, _, rfl, .inl h2, _, rfl, by omega, by omega, for_range (lo := 0) (n := ((ys.length : Nat) : Int).toNat) (fun i σ H' => ∃ k, σ = [some (.ref a), some (.ref b), k] ∧ H' = H) ⟨none, rfl, rfl⟩ ?_ ?_⟩
      · rintro i σ H' hi ⟨k, rfl, rfl⟩
        have hi1 : i < xs.length := by omega
        have hi2 : i < ys.length := by omega
        refine ⟨_, rfl, _, rfl, .inl ⟨_, _, _, xs[i], rfl, rfl, h1, at_of (j := i) (by omega) (List.getElem?_eq_getElem hi1), _, rfl, _, rfl, .inl ⟨_, _, _, ys[i], rfl, rfl, h2, at_of (j := i) (by omega) (List.getElem?_eq_getElem hi2), xs[i], ys[i], rfl, hs i _ _ (List.getElem?_eq_getElem hi1) (List.getElem?_eq_getElem hi2), _, rfl, iteF ?_⟩⟩⟩
        exact ⟨_, rfl, rfl⟩
      · rintro σ H' ⟨k, rfl, rfl⟩
        exact q
theorem ok__law_same {f : Addr} {fd : FuncData} (D : Df K mg "_law_same" s__law_same ["actual", "expected"] f fd) (T : Txt K mg) : FnOk P w K mg base CX0 8 f fd ["actual", "expected"] (sp__law_same K 8) := by
  suffices h : ∀ n, FnOk P w K mg base CX0 n f fd ["actual", "expected"] (sp__law_same K n) from h 8
  intro n
  induction n with
  | zero =>
    have no : ∀ vs H Q E, ¬ sp__law_same K 0 vs H Q E := by
      rintro vs H Q E ⟨x, y, _, h, _⟩
      exact h
    exact ⟨fun vs H Q E h => absurd h (no vs H Q E), fun A outer s H args us vs Q E _ _ _ _ h => absurd h (no vs H Q E)⟩
  | succ n ih => exact ok__law_same_step D T ih
theorem insSq {C dx : Addr} {fs : List (Str × V)} {K : PySem.W.Frag} {H H' : Hp} {o a : Addr} {ys : List V} (e : But o H H') (ho : H o = some (.ins C dx fs)) (h : SqL K H a ys) : SqL K H' a ys := by
  rcases h with (h | ⟨ob, h⟩) | h
  · exact .inl (.inl (e _ _ (ne_of h ho (by intro z; cases z)) h))
  · exact .inl (.inr ⟨ob, e _ _ (ne_of h ho (by intro z; cases z)) h⟩)
  · exact .inr h
def sp_Frame___init__ (K : PySem.W.Frag) (CF : Addr) : Sp := fun vs H Q _ => ∃ (p dx a1 a2 a3 a4 : Addr) (x1 x2 x3 x4 : List V) (v5 : V), vs = [.ref p, .ref a1, .ref a2, .ref a3, .ref a4, v5] ∧ H p = some (.ins CF dx []) ∧ SqL K H a1 x1 ∧ SqL K H a2 x2 ∧ SqL K H a3 x3 ∧ SqL K H a4 x4 ∧
  ∀ (d1 d2 d3 d4 : Addr) (H' : Hp), But p H H' → H' p = some (.ins CF dx (ff_Frame (.ref d1) (.ref d2) (.ref d3) (.ref d4) v5)) → H' d1 = some (.lst x1) → H' d2 = some (.lst x2) → H' d3 = some (.lst x3) → H' d4 = some (.lst x4) → H d1 = none → H d2 = none → H d3 = none → H d4 = none → [d1, d2, d3, d4].Nodup → Q .non H'
theorem ok_Frame___init__ {f : Addr} {fd : FuncData} {CF : Addr} (TF : Ck_Frame K mg CF) (D : Mt K CF "__init__" "Frame.__init__" s_Frame___init__ ["self", "devices", "clocks", "links", "sources", "faults"] f fd) (T : Txt K mg) : FnOk P w K mg base CX0 1 f fd ["self", "devices", "clocks", "links", "sources", "faults"] (sp_Frame___init__ K CF) := by
  refine D.F.ok sc_Frame___init__ (fun vs H Q E h => ?_) (fun cdv A outer s H vs Q E hr h => ?_)
  · obtain ⟨p, dx, a1, a2, a3, a4, x1, x2, x3, x4, v5, rfl, _⟩ := h
    rfl
  obtain ⟨p, dx, a1, a2, a3, a4, x1, x2, x3, x4, v5, rfl, hp, h1, h2, h3, h4, q⟩ := h
  refine ⟨_, (pss_cons (ps_fld (pv 0) (pe_callTy call_list_of rfl T.list (by decide +kernel) (pa_cons (pv 1) pa_nil)) rfl)
    (pss_cons (ps_fld (pv 0) (pe_callTy call_list_of rfl T.list (by decide +kernel) (pa_cons (pv 2) pa_nil)) rfl)
    (pss_cons (ps_fld (pv 0) (pe_callTy call_list_of rfl T.list (by decide +kernel) (pa_cons (pv 3) pa_nil)) rfl)
    (pss_cons (ps_fld (pv 0) (pe_callTy call_list_of rfl T.list (by decide +kernel) (pa_cons (pv 4) pa_nil)) rfl)
    (pss_one (ps_fld (pv 0) (pv 5) rfl)))))), ?_⟩
  refine ⟨_, rfl, _, _, rfl, .inl h1, fun d1 n1 => ?_⟩
  have s1 : Same H (upd H d1 (.lst x1)) := same_upd n1
  have e1 : (upd H d1 (.lst x1)) d1 = some (.lst x1) := upd_same
  generalize upd H d1 (.lst x1) = H1 at *
  have p1 := s1 _ _ hp
  refine ⟨_, rfl, p, CF, dx, [], rfl, p1, TF.cl, TF.n_devices, (by show 0 < 1000; decide), ?_⟩
  have b1 : But p H1 (upd H1 p (.ins CF dx (putF "devices" (.ref d1) []))) := But.set
  have q1 : (upd H1 p (.ins CF dx (putF "devices" (.ref d1) []))) p = some (.ins CF dx (putF "devices" (.ref d1) [])) := upd_same
  have f1 := b1 _ _ (ne_of e1 p1 (by intro z; cases z)) e1
  have g2 := insSq b1 p1 (s1.seq h2)
  have g3 := insSq b1 p1 (s1.seq h3)
  have g4 := insSq b1 p1 (s1.seq h4)
  have c1 := (But.of s1).trans b1
  have w1 : ∀ b, (upd H1 p (.ins CF dx (putF "devices" (.ref d1) []))) b = none → H b = none := fun b hb => by
    cases e : H b with
    | none => rfl
    | some u =>
      by_cases hbp : b = p
      · rw [hbp, q1] at hb; cases hb
      · rw [c1 _ _ hbp e] at hb; cases hb
  generalize upd H1 p (.ins CF dx (putF "devices" (.ref d1) [])) = H2 at *
  refine ⟨_, rfl, _, _, rfl, .inl g2, fun d2 n2 => ?_⟩
  have d12 : d1 ≠ d2 := ne_of_none f1 n2
  have s2 : Same H2 (upd H2 d2 (.lst x2)) := same_upd n2
  have e2 : (upd H2 d2 (.lst x2)) d2 = some (.lst x2) := upd_same
  generalize upd H2 d2 (.lst x2) = H3 at *
  have p3 := s2 _ _ q1
  refine ⟨_, rfl, p, CF, dx, _, rfl, p3, TF.cl, TF.n_clocks, (by show 1 < 1000; decide), ?_⟩
  have b3 : But p H3 (upd H3 p (.ins CF dx (putF "clocks" (.ref d2) (putF "devices" (.ref d1) [])))) := But.set
  have q3 : (upd H3 p (.ins CF dx (putF "clocks" (.ref d2) (putF "devices" (.ref d1) [])))) p = some (.ins CF dx (putF "clocks" (.ref d2) (putF "devices" (.ref d1) []))) := upd_same
  have f2 := b3 _ _ (ne_of e2 p3 (by intro z; cases z)) e2
  have f1 := b3 _ _ (ne_of (s2 _ _ f1) p3 (by intro z; cases z)) (s2 _ _ f1)
  have g3 := insSq b3 p3 (s2.seq g3)
  have g4 := insSq b3 p3 (s2.seq g4)
  have c3 := c1.trans ((But.of s2).trans b3)
  have w3 : ∀ b, (upd H3 p (.ins CF dx (putF "clocks" (.ref d2) (putF "devices" (.ref d1) [])))) b = none → H b = none := fun b hb => by
    cases e : H b with
    | none => rfl
    | some u =>
      by_cases hbp : b = p
      · rw [hbp, q3] at hb; cases hb
      · rw [c3 _ _ hbp e] at hb; cases hb
  generalize upd H3 p (.ins CF dx (putF "clocks" (.ref d2) (putF "devices" (.ref d1) []))) = H4 at *
  refine ⟨_, rfl, _, _, rfl, .inl g3, fun d3 n3 => ?_⟩
  have d13 : d1 ≠ d3 := ne_of_none f1 n3
  have d23 : d2 ≠ d3 := ne_of_none f2 n3
  have s4 : Same H4 (upd H4 d3 (.lst x3)) := same_upd n3
  have e3 : (upd H4 d3 (.lst x3)) d3 = some (.lst x3) := upd_same
  generalize upd H4 d3 (.lst x3) = H5 at *
  have p5 := s4 _ _ q3
  refine ⟨_, rfl, p, CF, dx, _, rfl, p5, TF.cl, TF.n_links, (by show 2 < 1000; decide), ?_⟩
  have b5 : But p H5 (upd H5 p (.ins CF dx (putF "links" (.ref d3) (putF "clocks" (.ref d2) (putF "devices" (.ref d1) []))))) := But.set
  have q5 : (upd H5 p (.ins CF dx (putF "links" (.ref d3) (putF "clocks" (.ref d2) (putF "devices" (.ref d1) []))))) p = some (.ins CF dx (putF "links" (.ref d3) (putF "clocks" (.ref d2) (putF "devices" (.ref d1) [])))) := upd_same
  have f3 := b5 _ _ (ne_of e3 p5 (by intro z; cases z)) e3
  have f2 := b5 _ _ (ne_of (s4 _ _ f2) p5 (by intro z; cases z)) (s4 _ _ f2)
  have f1 := b5 _ _ (ne_of (s4 _ _ f1) p5 (by intro z; cases z)) (s4 _ _ f1)
  have g4 := insSq b5 p5 (s4.seq g4)
  have c5 := c3.trans ((But.of s4).trans b5)
  have w5 : ∀ b, (upd H5 p (.ins CF dx (putF "links" (.ref d3) (putF "clocks" (.ref d2) (putF "devices" (.ref d1) []))))) b = none → H b = none := fun b hb => by
    cases e : H b with
    | none => rfl
    | some u =>
      by_cases hbp : b = p
      · rw [hbp, q5] at hb; cases hb
      · rw [c5 _ _ hbp e] at hb; cases hb
  generalize upd H5 p (.ins CF dx (putF "links" (.ref d3) (putF "clocks" (.ref d2) (putF "devices" (.ref d1) [])))) = H6 at *
  refine ⟨_, rfl, _, _, rfl, .inl g4, fun d4 n4 => ?_⟩
  have d14 : d1 ≠ d4 := ne_of_none f1 n4
  have d24 : d2 ≠ d4 := ne_of_none f2 n4
  have d34 : d3 ≠ d4 := ne_of_none f3 n4
  have s6 : Same H6 (upd H6 d4 (.lst x4)) := same_upd n4
  have e4 : (upd H6 d4 (.lst x4)) d4 = some (.lst x4) := upd_same
  generalize upd H6 d4 (.lst x4) = H7 at *
  have p7 := s6 _ _ q5
  refine ⟨_, rfl, p, CF, dx, _, rfl, p7, TF.cl, TF.n_sources, (by show 3 < 1000; decide), ?_⟩
  have b7 : But p H7 (upd H7 p (.ins CF dx (putF "sources" (.ref d4) (putF "links" (.ref d3) (putF "clocks" (.ref d2) (putF "devices" (.ref d1) [])))))) := But.set
  have q7 : (upd H7 p (.ins CF dx (putF "sources" (.ref d4) (putF "links" (.ref d3) (putF "clocks" (.ref d2) (putF "devices" (.ref d1) [])))))) p = some (.ins CF dx (putF "sources" (.ref d4) (putF "links" (.ref d3) (putF "clocks" (.ref d2) (putF "devices" (.ref d1) []))))) := upd_same
  have c7 := c5.trans ((But.of s6).trans b7)
  have f4 := b7 _ _ (ne_of e4 p7 (by intro z; cases z)) e4
  have f3 := b7 _ _ (ne_of (s6 _ _ f3) p7 (by intro z; cases z)) (s6 _ _ f3)
  have f2 := b7 _ _ (ne_of (s6 _ _ f2) p7 (by intro z; cases z)) (s6 _ _ f2)
  have f1 := b7 _ _ (ne_of (s6 _ _ f1) p7 (by intro z; cases z)) (s6 _ _ f1)
  generalize upd H7 p (.ins CF dx (putF "sources" (.ref d4) (putF "links" (.ref d3) (putF "clocks" (.ref d2) (putF "devices" (.ref d1) []))))) = H8 at *
  refine ⟨_, rfl, _, rfl, p, CF, dx, _, rfl, q7, TF.cl, TF.n_faults, (by show 4 < 1000; decide), ?_⟩
  have b9 : But p H8 (upd H8 p (.ins CF dx (ff_Frame (.ref d1) (.ref d2) (.ref d3) (.ref d4) v5))) := But.set
  refine q d1 d2 d3 d4 _ (c7.trans b9) upd_same (b9 _ _ (ne_of f1 q7 (by intro z; cases z)) f1) (b9 _ _ (ne_of f2 q7 (by intro z; cases z)) f2) (b9 _ _ (ne_of f3 q7 (by intro z; cases z)) f3) (b9 _ _ (ne_of f4 q7 (by intro z; cases z)) f4) n1 (w1 _ n2) (w3 _ n3) (w5 _ n4) ?_
  simp only [List.nodup_cons, List.mem_cons, List.not_mem_nil, or_false, not_or, not_false_eq_true, List.nodup_nil, and_true]
  exact ⟨⟨d12, d13, d14⟩, ⟨d23, d24⟩, d34⟩
theorem alpha_at (j : Int) : ∃ c : Nat, atI (Str.ofString "abcdefghijkl").cps.toList (j % 12) = some c := by
  have h1 : 0 ≤ j % 12 := Int.emod_nonneg _ (by decide)
  have h2 : j % 12 < 12 := Int.emod_lt_of_pos _ (by decide)
  have hl : (Str.ofString "abcdefghijkl").cps.toList.length = 12 := by decide +kernel
  have e : j % 12 = (((j % 12).toNat : Nat) : Int) := by omega
  rw [e]
  exact ⟨_, atI_nat (List.getElem?_eq_getElem (by rw [hl]; omega))⟩
theorem num_ok {i : Nat} (h : i ≤ 1000) : In18 (0 + (i : Int)) := by
  rw [Int.zero_add]
  exact In18.small h
def sp_law (K : PySem.W.Frag) : Sp := fun vs H Q _ => ∃ (a : Addr) (ns : List Int), vs = [.ref a] ∧ SqL K H a (ns.map V.int) ∧ ns.length ≤ 63 ∧ ∀ H', Q (.bl true) H'
theorem ok_law {f : Addr} {fd : FuncData} {CF : Addr} (TF : Ck_Frame K mg CF) {f_Frame___init__ : Addr} (MF : Mk K CF f_Frame___init__) (D : Df K mg "law" s_law ["script"] f fd) (T : Txt K mg) {f_birth : Addr} {fd_birth : FuncData} (D_birth : Df K mg "birth" s_birth ["frame"] f_birth fd_birth) (G_birth : FnOk P w K mg base CX0 1 f_birth fd_birth ["frame"] (sp_birth K CF)) {f_first_view : Addr} {fd_first_view : FuncData} (D_first_view : Df K mg "first_view" s_first_view ["frame"] f_first_view fd_first_view) (G_first_view : FnOk P w K mg base CX0 2 f_first_view fd_first_view ["frame"] (sp_first_view K CF)) {f__law_cell : Addr} {fd__law_cell : FuncData} (D__law_cell : Df K mg "_law_cell" s__law_cell ["script", "k"] f__law_cell fd__law_cell) (G__law_cell : FnOk P w K mg base CX0 1 f__law_cell fd__law_cell ["script", "k"] (sp__law_cell K)) {f__law_same : Addr} {fd__law_same : FuncData} (D__law_same : Df K mg "_law_same" s__law_same ["actual", "expected"] f__law_same fd__law_same) (G__law_same : FnOk P w K mg base CX0 8 f__law_same fd__law_same ["actual", "expected"] (sp__law_same K 8)) {fd_Frame___init__ : FuncData} (M_Frame___init__ : Mt K CF "__init__" "Frame.__init__" s_Frame___init__ ["self", "devices", "clocks", "links", "sources", "faults"] f_Frame___init__ fd_Frame___init__) (G_Frame___init__ : FnOk P w K mg base CX0 1 f_Frame___init__ fd_Frame___init__ ["self", "devices", "clocks", "links", "sources", "faults"] (sp_Frame___init__ K CF)) : FnOk P w K mg base CX0 9 f fd ["script"] (sp_law K) := by
  refine D.F.ok sc_law (fun vs H Q E h => ?_) (fun cdv A outer s H vs Q E hr h => ?_)
  · obtain ⟨a, ns, rfl, _⟩ := h
    rfl
  obtain ⟨a, ns, rfl, hS, h63, q⟩ := h
  refine ⟨_, (pss_cons (ps_set (i := 1) sc_law.nd rfl (Or.inl rfl) (pe_op op_add (pe_op op_mod (pe_callTy call_int1 rfl T.int (by decide +kernel) (pa_cons (pe_call G__law_cell (hr.mono (by decide)) rfl D__law_cell.m D__law_cell.F.kp D__law_cell.b .nil pass0 (pa_cons (pv 0) (pa_cons pe_int pa_nil))) pa_nil)) pe_int) pe_int))
    (pss_cons (ps_setLc (i := 2) (own := [("k", 4)]) (g := gName 4) (tt := tYes) rfl sc_law.nd rfl rfl (sw_true rfl rfl rfl (by decide +kernel)) (pi_range1 rfl T.range (pa_cons (pv 1) pa_nil)) (blkOk_by (own := [("k", 4)]) (N := nm_law) (sc := defScope s_law) (by decide +kernel)) (fun _ _ _ _ _ => (pg_name (i := 4) sc_law.nd rfl (Or.inl rfl))) (fun _ _ _ _ _ => pts_nil) (fun _ _ _ _ _ => (pe_op op_add_str (pe_ix ix_str pe_str (pe_op op_mod (pe_op op_fdivN (pe_callTy call_int1 rfl T.int (by decide +kernel) (pa_cons (pe_call G__law_cell (hr.mono (by decide)) rfl D__law_cell.m D__law_cell.F.kp D__law_cell.b .nil pass0 (pa_cons (pv 0) (pa_cons pe_int pa_nil))) pa_nil)) (pe_op op_add (pv 4) pe_int)) pe_int) (fun _ _ => rfl)) (pe_callTy call_str_int rfl T.str (by decide +kernel) (pa_cons (pv 4) pa_nil)))))
    (pss_cons (ps_set (i := 3) sc_law.nd rfl (Or.inl rfl) (pe_lst pa_nil))
    (pss_cons (ps_for PassesOwn.never rfl (pi_range1 rfl T.range (pa_cons (pe_op op_mod (pe_callTy call_int1 rfl T.int (by decide +kernel) (pa_cons (pe_call G__law_cell (hr.mono (by decide)) rfl D__law_cell.m D__law_cell.F.kp D__law_cell.b .nil pass0 (pa_cons (pv 0) (pa_cons pe_int pa_nil))) pa_nil)) pe_int) pa_nil)) (pg_name (i := 4) sc_law.nd rfl (Or.inl rfl))
      (pss_one (ps_expr (pe_bm PySem.F.plainAttrs_list PySem.F.slot_list_append PySem.F.type_list_append mt_append (pv 3) (pa_cons (pe_tup (pa_cons (pe_op op_add_str pe_str (pe_callTy call_str_int rfl T.str (by decide +kernel) (pa_cons (pv 4) pa_nil))) (pa_cons (pe_op op_modN (pe_op op_fdivN (pe_callTy call_int1 rfl T.int (by decide +kernel) (pa_cons (pe_call G__law_cell (hr.mono (by decide)) rfl D__law_cell.m D__law_cell.F.kp D__law_cell.b .nil pass0 (pa_cons (pv 0) (pa_cons pe_int pa_nil))) pa_nil)) (pe_op op_add (pv 4) pe_int)) (pv 1)) (pa_cons (pe_cmpR op_eq (pe_op op_mod (pv 4) pe_int) pe_int (nomark _)) (pa_cons (pe_tup (pa_cons (pe_tup (pa_cons pe_str (pa_cons pe_int (pa_cons (pe_op op_add pe_int (pv 4)) pa_nil)))) pa_nil)) pa_nil))))) pa_nil)))))
    (pss_cons (ps_set (i := 5) sc_law.nd rfl (Or.inl rfl) (pe_make MF G_Frame___init__ (hr.mono (by decide)) rfl TF.mg M_Frame___init__.b .nil pass0 (pa_cons (pv 2) (pa_cons (pv 3) (pa_cons (pe_lst pa_nil) (pa_cons (pe_lst (pa_cons (pe_tup (pa_cons pe_str (pa_cons (pe_op op_sub (pv 1) pe_int) (pa_cons (pe_tup (pa_cons (pe_tup (pa_cons pe_str (pa_cons pe_int (pa_cons pe_int pa_nil)))) pa_nil)) pa_nil)))) pa_nil)) (pa_cons (pe_op op_mod (pe_callTy call_int1 rfl T.int (by decide +kernel) (pa_cons (pe_call G__law_cell (hr.mono (by decide)) rfl D__law_cell.m D__law_cell.F.kp D__law_cell.b .nil pass0 (pa_cons (pv 0) (pa_cons pe_int pa_nil))) pa_nil)) pe_int) pa_nil)))))))
    (pss_cons (ps_set (i := 6) sc_law.nd rfl (Or.inr rfl) (pe_tup (pa_cons pe_bl (pa_cons (pe_tup pa_nil) (pa_cons (pe_tup pa_nil) (pa_cons (pe_tup (pa_cons pe_str pa_nil)) (pa_cons (pe_callTy call_tuple_of rfl T.tuple (by decide +kernel) (pa_cons (pe_lc (own := [("k", 4)]) (g := gName 4) (tt := tYes) rfl sc_law.nd (pi_range1 rfl T.range (pa_cons (pv 1) pa_nil)) (blkOk_by (own := [("k", 4)]) (N := nm_law) (sc := defScope s_law) (by decide +kernel)) (fun _ _ _ _ _ => (pg_name (i := 4) sc_law.nd rfl (Or.inl rfl))) (fun _ _ _ _ _ => pts_nil) (fun _ _ _ _ _ => pe_int)) pa_nil)) pa_nil)))))))
    (pss_cons (ps_if (pt_not (pt_val (pe_call G__law_same (hr.mono (by decide)) rfl D__law_same.m D__law_same.F.kp D__law_same.b .nil pass0 (pa_cons (pe_call G_birth (hr.mono (by decide)) rfl D_birth.m D_birth.F.kp D_birth.b .nil pass0 (pa_cons (pv 5) pa_nil)) (pa_cons (pv 6) pa_nil)))))
      (pss_one (ps_ret pe_bl))
      pss_nil)
    (pss_cons (ps_set (i := 7) sc_law.nd rfl (Or.inl rfl) (pe_call G_first_view (hr.mono (by decide)) rfl D_first_view.m D_first_view.F.kp D_first_view.b .nil pass0 (pa_cons (pv 5) pa_nil)))
    (pss_cons (ps_if (pt_not (pt_val (pe_call G__law_same (hr.mono (by decide)) rfl D__law_same.m D__law_same.F.kp D__law_same.b .nil pass0 (pa_cons (pv 7) (pa_cons (pe_lc (own := [("k", 4)]) (g := gName 4) (tt := tYes) rfl sc_law.nd (pi_range1 rfl T.range (pa_cons (pv 1) pa_nil)) (blkOk_by (own := [("k", 4)]) (N := nm_law) (sc := defScope s_law) (by decide +kernel)) (fun _ _ _ _ _ => (pg_name (i := 4) sc_law.nd rfl (Or.inl rfl))) (fun _ _ _ _ _ => pts_nil) (fun _ _ _ _ _ => (pe_lst (pa_cons (pv 6) pa_nil)))) pa_nil)))))
      (pss_one (ps_ret pe_bl))
      pss_nil)
    (pss_cons (ps_set (i := 8) sc_law.nd rfl (Or.inl rfl) (pe_op op_modN (pe_callTy call_int1 rfl T.int (by decide +kernel) (pa_cons (pe_call G__law_cell (hr.mono (by decide)) rfl D__law_cell.m D__law_cell.F.kp D__law_cell.b .nil pass0 (pa_cons (pv 0) (pa_cons pe_int pa_nil))) pa_nil)) (pv 1)))
    (pss_cons (ps_set (i := 9) sc_law.nd rfl (Or.inl rfl) (pe_ix ix_list (pv 7) (pv 8) (fun _ _ => rfl)))
    (pss_cons (ps_expr (pe_bm PySem.F.plainAttrs_list PySem.F.slot_list_append PySem.F.type_list_append mt_append (pv 9) (pa_cons (pv 6) pa_nil)))
    (pss_cons (ps_expr (pe_bm PySem.F.plainAttrs_list PySem.F.slot_list_append PySem.F.type_list_append mt_append (pv 7) (pa_cons (pe_lst pa_nil) pa_nil)))
    (pss_cons (ps_if (pt_not (pt_val (pe_call G__law_same (hr.mono (by decide)) rfl D__law_same.m D__law_same.F.kp D__law_same.b .nil pass0 (pa_cons (pe_call G_first_view (hr.mono (by decide)) rfl D_first_view.m D_first_view.F.kp D_first_view.b .nil pass0 (pa_cons (pv 5) pa_nil)) (pa_cons (pe_lc (own := [("k", 4)]) (g := gName 4) (tt := tYes) rfl sc_law.nd (pi_range1 rfl T.range (pa_cons (pv 1) pa_nil)) (blkOk_by (own := [("k", 4)]) (N := nm_law) (sc := defScope s_law) (by decide +kernel)) (fun _ _ _ _ _ => (pg_name (i := 4) sc_law.nd rfl (Or.inl rfl))) (fun _ _ _ _ _ => pts_nil) (fun _ _ _ _ _ => (pe_lst (pa_cons (pv 6) pa_nil)))) pa_nil)))))
      (pss_one (ps_ret pe_bl))
      pss_nil)
    (pss_one (ps_ret (pe_and (pe_call G__law_same (hr.mono (by decide)) rfl D__law_same.m D__law_same.F.kp D__law_same.b .nil pass0 (pa_cons (pe_call G_birth (hr.mono (by decide)) rfl D_birth.m D_birth.F.kp D_birth.b .nil pass0 (pa_cons (pv 5) pa_nil)) (pa_cons (pv 6) pa_nil))) (pe_and (pe_cmpR (op_eqP hr.units) (pe_fld (pv 5) rfl) (pv 2) (nomark _)) (pe_one (pe_cmpR op_eq (pe_callB call_len_seq rfl T.len PySem.boot_len (pa_cons (pe_fld (pv 5) rfl) pa_nil)) (pe_callB call_len_seq rfl T.len PySem.boot_len (pa_cons (pv 3) pa_nil)) (nomark _))))))))))))))))))))), ?_⟩
  refine ⟨_, rfl, a, ns, 0, rfl, hS, by decide, by decide, fun c0 => .inl ⟨_, rfl, _, _, rfl, rfl, (posJ rfl), _, _, rfl, rfl, ?_⟩⟩
  have z0 : 0 ≤ c0 % 6 := Int.emod_nonneg _ (by decide)
  have z6 : c0 % 6 < 6 := Int.emod_lt_of_pos _ (by decide)
  obtain ⟨n, hn⟩ : ∃ n : Nat, c0 % 6 + 1 = (n : Int) := ⟨(c0 % 6 + 1).toNat, by omega⟩
  dsimp only
  rw [hn]
  have n1 : 1 ≤ n := by omega
  have n6 : n ≤ 6 := by omega
  have hnn : ((n : Nat) : Int).toNat = n := by omega
  -- the names
  refine ⟨_, rfl, _, rfl, by omega, by omega, fun D hD => lc_range (lo := 0) (n := ((n : Nat) : Int).toNat) (fun i H' => ∃ ss : List Str, Same H H' ∧ H' D = some (.lst (ss.map V.str)) ∧ ss.length = i) ⟨[], same_upd hD, upd_same, rfl⟩ ?_ ?_⟩
  · rintro i H' hi ⟨ss, sm, eD, hl⟩
    have hi' : i ≤ 6 := by omega
    refine ⟨rfl, _, rfl, a, ns, 1, rfl, sm.seq hS, by decide, by decide, fun c1 => .inl ⟨_, rfl, _, rfl, _, _, rfl, rfl, _, _, rfl, rfl, ⟨by omega, by omega⟩, _, _, rfl, rfl, (posJ rfl), ?_⟩⟩
    obtain ⟨ch, hch⟩ := alpha_at (c1.fdiv (0 + (i : Int) + 1))
    have hw := word_len (num_ok (i := i) (by omega))
    refine ⟨_, _, ch, rfl, rfl, by decide +kernel, hch, _, rfl, _, rfl, (num_ok (i := i) (by omega)).log, _, _, rfl, rfl, sizes (Nat.le_trans (Nat.add_le_add_left hw 1) (by decide)), _, eD, by rw [List.length_map]; exact sizes' (by omega), ss ++ [(⟨#[ch]⟩ : Str) ++ Str.ofString (toString (0 + (i : Int)))], fun c w hc => ?_, ?_, by rw [List.length_append, List.length_singleton]; omega⟩
    · rw [upd_ne (ne_of_none hc hD)]
      exact sm _ _ hc
    · rw [upd_same, List.map_append]
      rfl
  rintro H1 ⟨ss, s1, eD, hl⟩
  rw [hnn] at hl
  -- the clocks
  refine ⟨(by show 0 ≤ sizeLine; decide), fun p hp => ?_⟩
  have s2 : Same H1 (upd H1 p (.lst [])) := same_upd hp
  have ep : (upd H1 p (.lst [])) p = some (.lst []) := upd_same
  generalize upd H1 p (.lst []) = H2 at *
  refine ⟨_, rfl, a, ns, 2, rfl, (s1.trans s2).seq hS, by decide, by decide, fun c2 => .inl ⟨_, rfl, _, _, rfl, rfl, (posJ rfl), _, rfl, ?_⟩⟩
  have y0 : 0 ≤ c2 % 4 := Int.emod_nonneg _ (by decide)
  have y4 : c2 % 4 < 4 := Int.emod_lt_of_pos _ (by decide)
  have gp : H p = none := s1.free hp
  refine ⟨by omega, by omega, for_range (lo := 0) (n := (c2 % 4).toNat) (fun i σ H' => ∃ k, ∃ xs : List V, σ = [some (.ref a), some (.int (n : Int)), some (.ref D), some (.ref p), k, none, none, none, none, none] ∧ Same H1 H' ∧ H' p = some (.lst xs) ∧ xs.length = i) ⟨none, [], rfl, s2, ep, rfl⟩ ?_ ?_⟩
  · rintro i σ H' hi ⟨k, xs, rfl, sm, ep', hxl⟩
    have hi' : i ≤ 6 := by omega
    have hw := word_len (num_ok (i := i) (by omega))
    refine ⟨_, rfl, .inl ⟨rfl, _, SqL.of ep'⟩, _, rfl, _, rfl, (num_ok (i := i) (by omega)).log, _, _, rfl, rfl, sizes (by rw [show (Str.ofString "c").length = 1 by decide +kernel]; omega), _, rfl, a, ns, 2, rfl, (s1.trans sm).seq hS, by decide, by decide, fun c3 => .inl ⟨_, rfl, _, rfl, _, _, rfl, rfl, _, _, rfl, rfl, ⟨by omega, by omega⟩, _, rfl, _, _, rfl, rfl, by omega, _, rfl, _, _, rfl, rfl, (posJ rfl), rfl, _, rfl, _, _, rfl, rfl, (by show 3 ≤ sizeLine; decide), fun t1 h1 => ⟨(by show 1 ≤ sizeLine; decide), fun t2 h2 => ⟨(by show 4 ≤ sizeLine; decide), fun t3 h3 => ?_⟩⟩⟩⟩
    have u1 := (same_upd h1 : Same H' (upd H' t1 (.tup [V.str "q", V.int 1, V.int (2 + (0 + (i : Int)))])))
    generalize upd H' t1 (.tup [V.str "q", V.int 1, V.int (2 + (0 + (i : Int)))]) = G1 at *
    have u2 := (same_upd h2 : Same G1 (upd G1 t2 (.tup [V.ref t1])))
    generalize upd G1 t2 (.tup [V.ref t1]) = G2 at *
    have u3 := fun o => (same_upd (o := o) h3 : Same G2 (upd G2 t3 o))
    refine ⟨_, _, _, rfl, rfl, u3 _ _ _ (u2 _ _ (u1 _ _ ep')), sizes' (by omega), _, _, rfl, fun c w hc => ?_, upd_same, by rw [List.length_append, List.length_singleton]; omega⟩
    rw [upd_ne (ne_of_none hc hp)]
    exact u3 _ _ _ (u2 _ _ (u1 _ _ (sm _ _ hc)))
  rintro σ H3 ⟨k, cks, rfl, s3, ep3, hcl⟩
  have eD3 := s3 _ _ eD
  have s03 := s1.trans s3
  -- the frame
  refine ⟨_, rfl, _, rfl, (by show 0 ≤ sizeLine; decide), fun l3 g3 => ?_⟩
  have r1 : Same H3 (upd H3 l3 (.lst [])) := same_upd g3
  have e3 : (upd H3 l3 (.lst [])) l3 = some (.lst []) := upd_same
  generalize upd H3 l3 (.lst []) = H4 at *
  refine ⟨_, rfl, _, _, rfl, rfl, (by show 3 ≤ sizeLine; decide), fun t1 h1 => ⟨(by show 1 ≤ sizeLine; decide), fun t2 h2 => ⟨(by show 3 ≤ sizeLine; decide), fun t3 h3 => ⟨(by show 1 ≤ sizeLine; decide), fun l4 g4 => ?_⟩⟩⟩⟩
  have u1 := (same_upd h1 : Same H4 (upd H4 t1 (.tup [V.str "g", V.int 0, V.int 3])))
  generalize upd H4 t1 (.tup [V.str "g", V.int 0, V.int 3]) = G1 at *
  have u2 := (same_upd h2 : Same G1 (upd G1 t2 (.tup [V.ref t1])))
  generalize upd G1 t2 (.tup [V.ref t1]) = G2 at *
  have u3 := (same_upd h3 : Same G2 (upd G2 t3 (.tup [V.str "s", V.int ((n : Int) - 1), V.ref t2])))
  generalize upd G2 t3 (.tup [V.str "s", V.int ((n : Int) - 1), V.ref t2]) = G3 at *
  have u4 := (same_upd g4 : Same G3 (upd G3 l4 (.lst [V.ref t3])))
  have e4 : (upd G3 l4 (.lst [V.ref t3])) l4 = some (.lst [V.ref t3]) := upd_same
  generalize upd G3 l4 (.lst [V.ref t3]) = H5 at *
  have s35 := r1.trans (u1.trans (u2.trans (u3.trans u4)))
  have s05 := s03.trans s35
  refine ⟨_, rfl, a, ns, 3, rfl, s05.seq hS, by decide, by decide, fun c5 => .inl ⟨_, rfl, _, _, rfl, rfl, (posJ rfl), ?_⟩⟩
  intro x dx nx ndx nex
  have sx : Same H5 (upd (upd H5 dx (.own x)) x (.ins CF dx [])) := fun c w hc => by
    rw [upd_ne (ne_of_none hc nx), upd_ne (ne_of_none hc ndx)]
    exact hc
  have ex : (upd (upd H5 dx (.own x)) x (.ins CF dx [])) x = some (.ins CF dx []) := upd_same
  generalize upd (upd H5 dx (.own x)) x (.ins CF dx []) = H6 at *
  refine ⟨x, dx, D, p, l3, l4, _, _, _, _, _, rfl, ex, SqL.of (sx _ _ (s35 _ _ eD3)), SqL.of (sx _ _ (s35 _ _ ep3)), SqL.of (sx _ _ ((u1.trans (u2.trans (u3.trans u4))) _ _ e3)), SqL.of (sx _ _ e4), fun d1 d2 d3 d4 H7 b7 hx f1 f2 f3 f4 _ _ _ _ _ => ⟨rfl, ?_⟩⟩
  have s57 : Same H5 H7 := fun c w hc => b7 _ _ (ne_of_none hc nx) (sx _ _ hc)
  have s07 := s05.trans s57
  have eD7 := s57 _ _ (s35 _ _ eD3)
  have ep7 := s57 _ _ (s35 _ _ ep3)
  have hsl : (ss.map V.str).length = n := by rw [List.length_map]; exact hl
  -- what is expected
  refine ⟨(by show 0 ≤ sizeLine; decide), fun t1 n1' => ⟨(by show 0 ≤ sizeLine; decide), fun t2 n2' => ⟨(by show 1 ≤ sizeLine; decide), fun t3 n3' => ?_⟩⟩⟩
  have w1 : Same H7 (upd H7 t1 (.tup [])) := same_upd n1'
  have k1 : (upd H7 t1 (.tup [])) t1 = some (.tup []) := upd_same
  generalize upd H7 t1 (.tup []) = J1 at *
  have w2 : Same J1 (upd J1 t2 (.tup [])) := same_upd n2'
  have k2 : (upd J1 t2 (.tup [])) t2 = some (.tup []) := upd_same
  generalize upd J1 t2 (.tup []) = J2 at *
  have w3 : Same J2 (upd J2 t3 (.tup [V.str "note"])) := same_upd n3'
  have k3 : (upd J2 t3 (.tup [V.str "note"])) t3 = some (.tup [V.str "note"]) := upd_same
  generalize upd J2 t3 (.tup [V.str "note"]) = J3 at *
  refine ⟨_, rfl, _, rfl, by omega, by omega, fun E1 hE1 => lc_range (lo := 0) (n := ((n : Nat) : Int).toNat) (fun i H' => Same J3 H' ∧ H' E1 = some (.lst ((List.replicate i (1 : Int)).map V.int))) ⟨same_upd hE1, upd_same⟩ ?_ ?_⟩
  · rintro i H' hi ⟨sm, e⟩
    refine ⟨rfl, _, e, by rw [List.length_map, List.length_replicate]; exact sizes' (by omega), fun c w hc => ?_, ?_⟩
    · rw [upd_ne (ne_of_none hc hE1)]
      exact sm _ _ hc
    · rw [upd_same, List.replicate_succ', List.map_append]
      rfl
  rintro J4 ⟨w4, k4⟩
  rw [hnn] at k4
  refine ⟨_, _, rfl, .inl ⟨SqL.of k4, fun t4 n4' => ⟨(by show 5 ≤ sizeLine; decide), fun ex n5' => ?_⟩⟩⟩
  have w5 : Same J4 (upd J4 t4 (.tup ((List.replicate n (1 : Int)).map V.int))) := same_upd n4'
  have k5 : (upd J4 t4 (.tup ((List.replicate n (1 : Int)).map V.int))) t4 = some (.tup ((List.replicate n (1 : Int)).map V.int)) := upd_same
  generalize upd J4 t4 (.tup ((List.replicate n (1 : Int)).map V.int)) = J5 at *
  have w6 : Same J5 (upd J5 ex (.tup [V.bl false, V.ref t1, V.ref t2, V.ref t3, V.ref t4])) := same_upd n5'
  have k6 : (upd J5 ex (.tup [V.bl false, V.ref t1, V.ref t2, V.ref t3, V.ref t4])) ex = some (.tup [V.bl false, V.ref t1, V.ref t2, V.ref t3, V.ref t4]) := upd_same
  generalize upd J5 ex (.tup [V.bl false, V.ref t1, V.ref t2, V.ref t3, V.ref t4]) = J6 at *
  have w36 := w4.trans (w5.trans w6)
  have hexp : EvAt K J6 ex (birthEv n) := ⟨t1, t2, t3, t4, SqT.of k6, SqT.of ((w2.trans (w3.trans w36)) _ _ k1), SqT.of ((w3.trans w36) _ _ k2), ⟨_, _, rfl, SqT.of (w36 _ _ k3), .inr ⟨of_decide_eq_true rfl, rfl⟩⟩, SqT.of (w6 _ _ k5)⟩
  have w07 := w1.trans (w2.trans (w3.trans w36))
  have hbk := birth_ok n6
  have hvk : VwOk (List.replicate n [birthEv n]) := ⟨by rw [List.length_replicate]; exact n6, by rw [List.map_replicate]; simp; omega, fun es hes e he => by
    rw [List.eq_of_mem_replicate hes] at he
    rw [List.mem_singleton.mp he]
    exact hbk⟩
  clear k1 k2 k3 k4 k5 k6 w1 w2 w3 w4 w5 w6 w36 n1' n2' n3' n4' n5'
  have hx6 := w07 _ _ hx
  have f16 := w07 _ _ f1
  -- a list of lists with what is expected
  refine ⟨_, rfl, x, dx, d1, _, _, _, _, _, rfl, hx6, SqL.of f16, by rw [hsl]; exact n6, fun b1 L1 v1 hb1 => ?_⟩
  rw [hsl] at hb1
  refine ⟨_, rfl, _, _, rfl, simE (n := 4) hb1 (hexp.keep v1) hbk, _, rfl, iteF ?_⟩
  have s6L := w07.trans v1
  refine ⟨_, rfl, x, dx, d1, _, _, _, _, _, rfl, v1 _ _ hx6, SqL.of (v1 _ _ f16), by rw [hsl]; exact n6, fun vw rows L2 v2 nvw evw hEv nDv hfr => ?_⟩
  rw [hsl] at hEv
  -- [[expected] for k in range(size)]
  have exps : ∀ (L : Hp) (hL : EvAt K L ex (birthEv n)) (M : Hp) (D2 : Addr), L D2 = none → Same (upd L D2 (.lst [])) M → True := fun _ _ _ _ _ _ => True.intro
  clear exps
  refine ⟨_, rfl, _, rfl, _, rfl, by omega, by omega, fun D2 hD2 => lc_range (lo := 0) (n := ((n : Nat) : Int).toNat) (fun i H' => ∃ rs : List Addr, Same L2 H' ∧ H' D2 = some (.lst (rs.map V.ref)) ∧ Each (RowAt K H') rs (List.replicate i [birthEv n]) ∧ D2 ∉ rs) ⟨[], same_upd hD2, upd_same, Each.nil, by simp⟩ ?_ ?_⟩
  · rintro i H' hi ⟨rs, sm, eD2, hE, nD⟩
    refine ⟨rfl, _, rfl, (by show 1 ≤ sizeLine; decide), fun u hu => ?_⟩
    have z1 : Same H' (upd H' u (.lst [V.ref ex])) := same_upd hu
    have nDu : D2 ≠ u := ne_of_none eD2 hu
    have bD : But D2 (upd H' u (.lst [V.ref ex])) (upd (upd H' u (.lst [V.ref ex])) D2 (.lst (rs.map V.ref ++ [V.ref u]))) := But.set
    have hel := hE.1
    rw [List.length_replicate] at hel
    refine ⟨_, z1 _ _ eD2, by rw [List.length_map]; exact sizes' (by omega), rs ++ [u], fun c w hc => bD _ _ (ne_of_none hc hD2) (z1 _ _ (sm _ _ hc)), ?_, ?_, ?_⟩
    · rw [upd_same, List.map_append]
      rfl
    · rw [List.replicate_succ']
      refine Each.snoc ⟨hE.1, fun j r es g1 g2 => ?_⟩ ⟨[ex], bD _ _ nDu.symm upd_same, Each.snoc (as := []) (xs := []) Each.nil ((hexp.keep (v1.trans (v2.trans (sm.trans z1)))).but bD (z1 _ _ eD2))⟩
      obtain ⟨as, q1, q2⟩ := hE.2 j r es g1 g2
      exact ⟨as, bD _ _ (fun e => nD (by rw [← e]; exact List.mem_of_getElem? g1)) (z1 _ _ q1), q2.keep fun _ _ z => (EvAt.keep z1 z).but bD (z1 _ _ eD2)⟩
    · intro h
      rcases List.mem_append.mp h with h | h
      · exact nD h
      · exact nDu (List.mem_singleton.mp h)
  rintro L3 ⟨rs, v3, eD2, hE2, _⟩
  rw [hnn] at hE2
  refine ⟨_, _, rfl, simV (n := 2) ⟨rows, v3 _ _ evw, hEv.keep fun _ _ z => RowAt.keep v3 z⟩ ⟨rs, eD2, hE2⟩ hvk, _, rfl, iteF ?_⟩
  have v13 := v1.trans (v2.trans v3)
  have v03 := w07.trans v13
  -- place, row
  refine ⟨_, rfl, a, ns, 4, rfl, (s07.trans v03).seq hS, by decide, by decide, fun c6 => .inl ⟨_, rfl, _, rfl, _, _, rfl, rfl, by omega, ?_⟩⟩
  have j0 : 0 ≤ c6.fmod (n : Int) := Int.fmod_nonneg_of_pos _ (by omega)
  have j1 : c6.fmod (n : Int) < (n : Int) := Int.fmod_lt_of_pos _ (by omega)
  obtain ⟨j, hj⟩ : ∃ j : Nat, c6.fmod (n : Int) = (j : Int) := ⟨_, (Int.toNat_of_nonneg j0).symm⟩
  have hrl : rows.length = n := by rw [hEv.1, List.length_replicate]
  have hjl : j < rows.length := by omega
  have evw3 := v3 _ _ evw
  obtain ⟨es, hes, as, hrow, hEs⟩ := (hEv.keep fun _ _ z => RowAt.keep v3 z).get (List.getElem?_eq_getElem hjl)
  have hes1 := List.eq_of_mem_replicate (List.mem_of_getElem? hes)
  refine ⟨_, rfl, _, rfl, _, _, _, _, rfl, rfl, SqL.of evw3, at_of (j := j) (v := V.ref rows[j]) hj (by rw [List.getElem?_map, List.getElem?_eq_getElem hjl]; rfl), ?_⟩
  have hjm : rows[j] ∈ rows := List.getElem_mem hjl
  have hasl : as.length = 1 := by rw [hEs.1, hes1]; rfl
  refine ⟨_, rfl, .inl ⟨rfl, _, SqL.of hrow⟩, _, rfl, _, _, _, rfl, rfl, hrow, by rw [List.length_map]; exact sizes' (by omega), ?_⟩
  have m1 : Same L1 (upd L3 rows[j] (.lst (as.map V.ref ++ [V.ref ex]))) := fun c w hc => by
    rw [upd_ne (ne_of_none hc (hfr _ hjm))]
    exact v3 _ _ (v2 _ _ hc)
  have evw4 : (upd L3 rows[j] (.lst (as.map V.ref ++ [V.ref ex]))) vw = some (.lst (rows.map V.ref)) := by
    rw [upd_ne (fun e => nDv (by rw [e]; exact hjm) : vw ≠ rows[j])]
    exact evw3
  generalize upd L3 rows[j] (.lst (as.map V.ref ++ [V.ref ex])) = L4 at *
  refine ⟨_, rfl, .inl ⟨rfl, _, SqL.of evw4⟩, (by show 0 ≤ sizeLine; decide), fun t ht => ?_⟩
  have z1 : Same L4 (upd L4 t (.lst [])) := same_upd ht
  refine ⟨_, _, _, rfl, rfl, z1 _ _ evw4, by rw [List.length_map]; exact sizes' (by omega), ?_⟩
  have m2 : Same L1 (upd (upd L4 t (.lst [])) vw (.lst (rows.map V.ref ++ [V.ref t]))) := fun c w hc => by
    rw [upd_ne (ne_of_none hc nvw)]
    exact z1 _ _ (m1 _ _ hc)
  generalize upd (upd L4 t (.lst [])) vw (.lst (rows.map V.ref ++ [V.ref t])) = L5 at *
  have v05 := v1.trans m2
  -- asked again
  refine ⟨_, rfl, x, dx, d1, _, _, _, _, _, rfl, v05 _ _ hx6, SqL.of (v05 _ _ f16), by rw [hsl]; exact n6, fun vw2 rows2 L6 v6 _ evw6 hEv6 _ _ => ?_⟩
  rw [hsl] at hEv6
  refine ⟨_, rfl, _, rfl, by omega, by omega, fun D2 hD2 => lc_range (lo := 0) (n := ((n : Nat) : Int).toNat) (fun i H' => ∃ rs : List Addr, Same L6 H' ∧ H' D2 = some (.lst (rs.map V.ref)) ∧ Each (RowAt K H') rs (List.replicate i [birthEv n]) ∧ D2 ∉ rs) ⟨[], same_upd hD2, upd_same, Each.nil, by simp⟩ ?_ ?_⟩
  · rintro i H' hi ⟨rs, sm, eD2, hE, nD⟩
    refine ⟨rfl, _, rfl, (by show 1 ≤ sizeLine; decide), fun u hu => ?_⟩
    have z1 : Same H' (upd H' u (.lst [V.ref ex])) := same_upd hu
    have nDu : D2 ≠ u := ne_of_none eD2 hu
    have bD : But D2 (upd H' u (.lst [V.ref ex])) (upd (upd H' u (.lst [V.ref ex])) D2 (.lst (rs.map V.ref ++ [V.ref u]))) := But.set
    have hel := hE.1
    rw [List.length_replicate] at hel
    refine ⟨_, z1 _ _ eD2, by rw [List.length_map]; exact sizes' (by omega), rs ++ [u], fun c w hc => bD _ _ (ne_of_none hc hD2) (z1 _ _ (sm _ _ hc)), ?_, ?_, ?_⟩
    · rw [upd_same, List.map_append]
      rfl
    · rw [List.replicate_succ']
      refine Each.snoc ⟨hE.1, fun j r es g1 g2 => ?_⟩ ⟨[ex], bD _ _ nDu.symm upd_same, Each.snoc (as := []) (xs := []) Each.nil ((hexp.keep (v05.trans (v6.trans (sm.trans z1)))).but bD (z1 _ _ eD2))⟩
      obtain ⟨as, q1, q2⟩ := hE.2 j r es g1 g2
      exact ⟨as, bD _ _ (fun e => nD (by rw [← e]; exact List.mem_of_getElem? g1)) (z1 _ _ q1), q2.keep fun _ _ z => (EvAt.keep z1 z).but bD (z1 _ _ eD2)⟩
    · intro h
      rcases List.mem_append.mp h with h | h
      · exact nD h
      · exact nDu (List.mem_singleton.mp h)
  rintro L7 ⟨rs2, v7, eD7', hE7, _⟩
  rw [hnn] at hE7
  refine ⟨_, _, rfl, simV (n := 2) ⟨rows2, v7 _ _ evw6, hEv6.keep fun _ _ z => RowAt.keep v7 z⟩ ⟨rs2, eD7', hE7⟩ hvk, _, rfl, iteF ?_⟩
  have v07 := v05.trans (v6.trans v7)
  refine ⟨_, rfl, x, dx, d1, _, _, _, _, _, rfl, v07 _ _ hx6, SqL.of (v07 _ _ f16), by rw [hsl]; exact n6, fun b2 L8 v8 hb2 => ?_⟩
  rw [hsl] at hb2
  have v08 := v07.trans v8
  have v18 := w07.trans v08
  refine ⟨_, rfl, _, _, rfl, simE (n := 4) hb2 (hexp.keep v08) hbk, _, rfl, iteT ?_⟩
  refine ⟨_, rfl, x, CF, dx, _, _, rfl, v08 _ _ hx6, TF.cl, TF.n_devices, lk_Frame_devices, _, rfl, PyData.list (ss.map PyData.str), PyData.list (ss.map PyData.str), strs_dp (SqL.of (v08 _ _ f16)), strs_dp (SqL.of (v18 _ _ eD7)), strl_plain ss, strl_plain ss, strl_depth ss, _, rfl, ?_⟩
  rw [SeqAt.eqv_refl_plain _ (strl_plain ss)]
  refine iteT ⟨_, rfl, x, CF, dx, _, _, rfl, v08 _ _ hx6, TF.cl, TF.n_clocks, lk_Frame_clocks, _, _, rfl, .inl (SqL.of (v18 _ _ f2)), _, rfl, _, _, rfl, .inl (SqL.of (v18 _ _ ep7)), rfl, ?_⟩
  show Q (.bl (decide (V.int (cks.length : Int) = V.int (cks.length : Int)))) L8
  rw [decide_eq_true rfl]
  exact q L8
end
theorem all_mk {l : PySem.W.OpenLaw} {w : World} {K : PySem.W.Frag} {h : Heap} {mg : Str → Option Value} {fa : Addr} (X : K.In h) (G : h.Ns mainGlobals mg) (hfa : mg "law" = some (.ref fa))
    {CF : Addr} {od0 an0 : Option Addr} {sl0 : Array (Option Value)} {oc0 kV0 dc0 pm0 cd0 ct0 : Value} {f0 : Addr} {od1 an1 : Option Addr} {sl1 : Array (Option Value)} {oc1 kV1 dc1 pm1 cd1 ct1 : Value} {f1 : Addr} {od2 an2 : Option Addr} {sl2 : Array (Option Value)} {oc2 kV2 dc2 pm2 cd2 ct2 : Value} {f2 : Addr} {od3 an3 : Option Addr} {sl3 : Array (Option Value)} {oc3 kV3 dc3 pm3 cd3 ct3 : Value} {f3 : Addr} {od4 an4 : Option Addr} {sl4 : Array (Option Value)} {oc4 kV4 dc4 pm4 cd4 ct4 : Value} {f4 : Addr} {od5 an5 : Option Addr} {sl5 : Array (Option Value)} {oc5 kV5 dc5 pm5 cd5 ct5 : Value} {f5 : Addr}
    (aC_Frame : PySem.W.nsIn K mainGlobals "Frame" = some (some (.ref CF))) (pg_Frame : PySem.W.plainGet K CF Str.empty = true) (hd_Frame : PySem.W.hasDictIn K CF = true) (po_Frame : PySem.W.plainOver K CF = true) (sa_Frame : PySem.W.findIn K (.ref CF) "__setattr__" = some (some (.builtin "object.__setattr__"))) (mk_Frame : PySem.W.makesIn K CF = true) (kc_Frame : PySem.W.keepIn K (.ref CF) = true) (n_Frame_devices : PySem.W.findIn K (.ref CF) "devices" = some none) (n_Frame_clocks : PySem.W.findIn K (.ref CF) "clocks" = some none) (n_Frame_links : PySem.W.findIn K (.ref CF) "links" = some none) (n_Frame_sources : PySem.W.findIn K (.ref CF) "sources" = some none) (n_Frame_faults : PySem.W.findIn K (.ref CF) "faults" = some none)
    (a0 : PySem.W.nsIn K mainGlobals "birth" = some (some (.ref f0)))
    (l0 : K.lookup f0 = some ⟨oc0, od0, .func (PySem.W.fnOf "birth" "birth" (defArgs s_birth) (defBody s_birth) (defScope s_birth) .none kV0 dc0 pm0 an0 cd0 ct0), sl0⟩) (c0 : PySem.W.codeIn K cd0 "birth" = true) (k0 : PySem.W.keepIn K (.ref f0) = true)
    (a1 : PySem.W.nsIn K mainGlobals "first_view" = some (some (.ref f1)))
    (l1 : K.lookup f1 = some ⟨oc1, od1, .func (PySem.W.fnOf "first_view" "first_view" (defArgs s_first_view) (defBody s_first_view) (defScope s_first_view) .none kV1 dc1 pm1 an1 cd1 ct1), sl1⟩) (c1 : PySem.W.codeIn K cd1 "first_view" = true) (k1 : PySem.W.keepIn K (.ref f1) = true)
    (a2 : PySem.W.nsIn K mainGlobals "_law_cell" = some (some (.ref f2)))
    (l2 : K.lookup f2 = some ⟨oc2, od2, .func (PySem.W.fnOf "_law_cell" "_law_cell" (defArgs s__law_cell) (defBody s__law_cell) (defScope s__law_cell) .none kV2 dc2 pm2 an2 cd2 ct2), sl2⟩) (c2 : PySem.W.codeIn K cd2 "_law_cell" = true) (k2 : PySem.W.keepIn K (.ref f2) = true)
    (a3 : PySem.W.nsIn K mainGlobals "_law_same" = some (some (.ref f3)))
    (l3 : K.lookup f3 = some ⟨oc3, od3, .func (PySem.W.fnOf "_law_same" "_law_same" (defArgs s__law_same) (defBody s__law_same) (defScope s__law_same) .none kV3 dc3 pm3 an3 cd3 ct3), sl3⟩) (c3 : PySem.W.codeIn K cd3 "_law_same" = true) (k3 : PySem.W.keepIn K (.ref f3) = true)
    (a4 : PySem.W.findIn K (.ref CF) "__init__" = some (some (.ref f4))) (i4 : PySem.W.isFn K (.ref f4) = true)
    (l4 : K.lookup f4 = some ⟨oc4, od4, .func (PySem.W.fnOf "__init__" "Frame.__init__" (defArgs s_Frame___init__) (defBody s_Frame___init__) (defScope s_Frame___init__) .none kV4 dc4 pm4 an4 cd4 ct4), sl4⟩) (c4 : PySem.W.codeIn K cd4 "Frame.__init__" = true) (k4 : PySem.W.keepIn K (.ref f4) = true)
    (a5 : PySem.W.nsIn K mainGlobals "law" = some (some (.ref f5)))
    (l5 : K.lookup f5 = some ⟨oc5, od5, .func (PySem.W.fnOf "law" "law" (defArgs s_law) (defBody s_law) (defScope s_law) .none kV5 dc5 pm5 an5 cd5 ct5), sl5⟩) (c5 : PySem.W.codeIn K cd5 "law" = true) (k5 : PySem.W.keepIn K (.ref f5) = true)
    (z_len : PySem.W.nsIn K mainGlobals "len" = some none)
    (z_str : PySem.W.nsIn K mainGlobals "str" = some none)
    (z_int : PySem.W.nsIn K mainGlobals "int" = some none)
    (z_range : PySem.W.nsIn K mainGlobals "range" = some none)
    (z_tuple : PySem.W.nsIn K mainGlobals "tuple" = some none)
    (z_list : PySem.W.nsIn K mainGlobals "list" = some none)
    (z_isinstance : PySem.W.nsIn K mainGlobals "isinstance" = some none)
    (z_bool : PySem.W.nsIn K mainGlobals "bool" = some none)
    (z_all : PySem.W.nsIn K mainGlobals "all" = some none) :
    ∃ fd : FuncData, (∀ (s : Shared) (v : Value), BindsTo s fd ⟨[v], []⟩ [("script", v)]) ∧ ∀ base : Heap, K.In base → base.Ns mainGlobals mg → FnOk l.prog w K mg base CX0 9 fa fd ["script"] (sp_law K) := by
  have e := hfa.symm.trans (PySem.W.mg_of X G a5)
  cases e
  have TF : Ck_Frame K mg CF := ⟨⟨pg_Frame, hd_Frame, po_Frame, sa_Frame⟩, PySem.W.mg_of X G aC_Frame, n_Frame_devices, n_Frame_clocks, n_Frame_links, n_Frame_sources, n_Frame_faults⟩
  have F0 := fun_mk (st := s_birth) l0 c0 k0
  have D_birth : Df K mg "birth" s_birth ["frame"] _ _ := ⟨F0, F0.binds (ps := ["frame"]) fun _ _ _ _ _ _ us hl => match us, hl with | [_], _ => rfl, PySem.W.mg_of X G a0⟩
  have F1 := fun_mk (st := s_first_view) l1 c1 k1
  have D_first_view : Df K mg "first_view" s_first_view ["frame"] _ _ := ⟨F1, F1.binds (ps := ["frame"]) fun _ _ _ _ _ _ us hl => match us, hl with | [_], _ => rfl, PySem.W.mg_of X G a1⟩
  have F2 := fun_mk (st := s__law_cell) l2 c2 k2
  have D__law_cell : Df K mg "_law_cell" s__law_cell ["script", "k"] _ _ := ⟨F2, F2.binds (ps := ["script", "k"]) fun _ _ _ _ _ _ us hl => match us, hl with | [_, _], _ => rfl, PySem.W.mg_of X G a2⟩
  have F3 := fun_mk (st := s__law_same) l3 c3 k3
  have D__law_same : Df K mg "_law_same" s__law_same ["actual", "expected"] _ _ := ⟨F3, F3.binds (ps := ["actual", "expected"]) fun _ _ _ _ _ _ us hl => match us, hl with | [_, _], _ => rfl, PySem.W.mg_of X G a3⟩
  have F4 := fun_mk (st := s_Frame___init__) l4 c4 k4
  have M_Frame___init__ : Mt K CF "__init__" "Frame.__init__" s_Frame___init__ ["self", "devices", "clocks", "links", "sources", "faults"] _ _ := ⟨F4, F4.binds (ps := ["self", "devices", "clocks", "links", "sources", "faults"]) fun _ _ _ _ _ _ us hl => match us, hl with | [_, _, _, _, _, _], _ => rfl, ⟨a4, i4, k4⟩⟩
  have MF : Mk K CF _ := ⟨mk_Frame, a4, i4, kc_Frame⟩
  have F5 := fun_mk (st := s_law) l5 c5 k5
  have D_law : Df K mg "law" s_law ["script"] _ _ := ⟨F5, F5.binds (ps := ["script"]) fun _ _ _ _ _ _ us hl => match us, hl with | [_], _ => rfl, PySem.W.mg_of X G a5⟩
  have T : Txt K mg := ⟨PySem.W.mg_none_of X G z_len, PySem.W.mg_none_of X G z_str, PySem.W.mg_none_of X G z_int, PySem.W.mg_none_of X G z_range, PySem.W.mg_none_of X G z_tuple, PySem.W.mg_none_of X G z_list, PySem.W.mg_none_of X G z_isinstance, PySem.W.mg_none_of X G z_bool, PySem.W.mg_none_of X G z_all⟩
  refine ⟨PySem.W.fnOf "law" "law" (defArgs s_law) (defBody s_law) (defScope s_law) .none kV5 dc5 pm5 an5 cd5 ct5, fun s v => .of_eq rfl, fun base _ _ => ?_⟩
  have G_birth : FnOk l.prog w K mg base CX0 1 _ _ ["frame"] (sp_birth K CF) := ok_birth TF D_birth T  
  have G_first_view : FnOk l.prog w K mg base CX0 2 _ _ ["frame"] (sp_first_view K CF) := ok_first_view TF D_first_view T  D_birth G_birth
  have G__law_cell : FnOk l.prog w K mg base CX0 1 _ _ ["script", "k"] (sp__law_cell K) := ok__law_cell D__law_cell T  
  have G__law_same : FnOk l.prog w K mg base CX0 8 _ _ ["actual", "expected"] (sp__law_same K 8) := ok__law_same D__law_same T  
  have G_Frame___init__ : FnOk l.prog w K mg base CX0 1 _ _ ["self", "devices", "clocks", "links", "sources", "faults"] (sp_Frame___init__ K CF) := ok_Frame___init__ TF M_Frame___init__ T  
  have G_law : FnOk l.prog w K mg base CX0 9 _ _ ["script"] (sp_law K) := ok_law TF MF D_law T  D_birth G_birth D_first_view G_first_view D__law_cell G__law_cell D__law_same G__law_same M_Frame___init__ G_Frame___init__
  exact G_law
theorem walk {l : PySem.W.OpenLaw} {q : Program} {loose : List Str} {XP : (Str → Option Value) → Heap → Prop} {YP : World → Heap → Prop} {d : DefRec} {K : Params → PySem.W.Frag} (hn : l.most = some 63) (hdf : d.params.defaults = [])
    (hY : ∀ (w : World) (h : Heap), YP w h → (K w.params).In h)
    (F : ∀ (w : World) (mg : Str → Option Value) (fa : Addr) (h : Heap), (K w.params).In h → h.Ns mainGlobals mg → mg d.name = some (.ref fa) →
      ∃ fd : FuncData, (∀ (s : Shared) (u : Value), BindsTo s fd ⟨[u], []⟩ [("script", u)]) ∧ ∀ base : Heap, (K w.params).In base → base.Ns mainGlobals mg → FnOk l.prog w (K w.params) mg base CX0 9 fa fd ["script"] (sp_law (K w.params))) :
    PySem.W.WalkO q loose XP YP l.row.toRowW d [] (fun f vs => PySem.call f vs) :=
  L2.walk_of (n := 63) (k := 9) (x := "script") (CX := fun _ => CX0) (sp := fun w => sp_law (K w.params)) hn (by decide) hdf ⟨rfl, by decide, by decide⟩ hY F (fun _ _ a ns hl _ hS => ⟨a, ns, rfl, hS, hl, fun _ => rfl⟩) fun _ _ _ _ _ z => z
end Vs
open PySem PySem.W PyProof.Rows
set_option maxRecDepth 100000 in
set_option maxHeartbeats 0 in
theorem PySem.Challenge.cw_whensure_k11_births_holds : PySem.Challenge.rw_whensure_k11_births.Holds := by
  w_on; o_law; k_head; (case hw => w_witness2)
  k_fill
  refine Vs.walk (l := PySem.Challenge.rw_whensure_k11_births) rfl rfl (fun w h Y => PySem.W.kIn_of Y) ?F
  case F =>
    intro w mg fa h KX G hmg
    refine' Vs.all_mk KX G hmg ?aC_Frame ?pg_Frame ?hd_Frame ?po_Frame ?sa_Frame ?mk_Frame ?kc_Frame ?n_Frame_devices ?n_Frame_clocks ?n_Frame_links ?n_Frame_sources ?n_Frame_faults ?a0 ?l0 ?c0 ?k0 ?a1 ?l1 ?c1 ?k1 ?a2 ?l2 ?c2 ?k2 ?a3 ?l3 ?c3 ?k3 ?a4 ?i4 ?l4 ?c4 ?k4 ?a5 ?l5 ?c5 ?k5 ?z_len ?z_str ?z_int ?z_range ?z_tuple ?z_list ?z_isinstance ?z_bool ?z_all
    (case aC_Frame => k_is)
    (case pg_Frame => k_is)
    (case hd_Frame => k_is)
    (case po_Frame => k_is)
    (case sa_Frame => k_is)
    (case mk_Frame => k_is)
    (case kc_Frame => k_is)
    (case n_Frame_devices => k_is)
    (case n_Frame_clocks => k_is)
    (case n_Frame_links => k_is)
    (case n_Frame_sources => k_is)
    (case n_Frame_faults => k_is)
    (case a0 => k_is)
    (case l0 => k_is)
    (case c0 => k_is)
    (case k0 => k_is)
    (case a1 => k_is)
    (case l1 => k_is)
    (case c1 => k_is)
    (case k1 => k_is)
    (case a2 => k_is)
    (case l2 => k_is)
    (case c2 => k_is)
    (case k2 => k_is)
    (case a3 => k_is)
    (case l3 => k_is)
    (case c3 => k_is)
    (case k3 => k_is)
    (case a4 => k_is)
    (case i4 => k_is)
    (case l4 => k_is)
    (case c4 => k_is)
    (case k4 => k_is)
    (case a5 => k_is)
    (case l5 => k_is)
    (case c5 => k_is)
    (case k5 => k_is)
    (case z_len => k_is)
    (case z_str => k_is)
    (case z_int => k_is)
    (case z_range => k_is)
    (case z_tuple => k_is)
    (case z_list => k_is)
    (case z_isinstance => k_is)
    (case z_bool => k_is)
    (case z_all => k_is)
#print axioms PySem.Challenge.cw_whensure_k11_births_holds
