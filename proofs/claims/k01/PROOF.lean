import PyProof.Rows.All
import Wide.All
import OpenK.AllK
import Wide.FinOn
import KE.GoesEnum
import HandS.ForMost
import HandS.IsInst
import HandS.Flow
import HandS.Walk
import HandS.Zip
import HandS.Style
import HandS.Defaults
import HandS.Evl
import PySem.Challenge.RW_fieldtable_k01_numbers_and_strings_writt
set_option Elab.async false
set_option linter.all false
set_option maxRecDepth 100000
set_option maxHeartbeats 4000000
namespace Fld
open PySem PySem.Spec PyProof.Rows L2
/-! ### a written dict whose keys are ints -/
def EntI : List DictEntry → List (Int × V) → Prop := Paired fun (e : DictEntry) (p : Int × V) => (∃ t, e.key = Value.int p.1 t) ∧ e.hash = hashInt p.1 ∧ RelV p.2 e.val
structure IDict (K : PySem.W.Frag) (d : Addr) (kvs : List (Int × V)) : Prop where
  ex : ∃ es n, K.lookup d = some ⟨.type "dict", none, .dict es n, #[]⟩ ∧ EntI es.toList kvs
  low : (d == sysModules) = false
def valI (kvs : List (Int × V)) (k : Int) : Option V := (kvs.find? fun p => p.1 == k).map (·.2)
theorem findI : ∀ {es : List DictEntry} {kvs : List (Int × V)} (k : Int), EntI es kvs → RelO (valI kvs k) ((es.find? fun e => Value.isInt k e.key).map (·.val))
  | _, _, k, .nil => True.intro
  | e :: es, p :: kvs, k, .cons h t => by
    obtain ⟨⟨u, e1⟩, e2, e3⟩ := h
    have ih := findI k t
    unfold valI
    rw [List.find?_cons, List.find?_cons, e1]
    by_cases c : p.1 = k
    · subst c
      have q : Value.isInt p.1 (Value.int p.1 u) = true := by simp [Value.isInt]
      rw [q]
      simp only [beq_self_eq_true, Option.map_some]
      exact e3
    · have q : Value.isInt k (Value.int p.1 u) = false := by simp [Value.isInt, c]
      have q2 : (p.1 == k) = false := by simp [c]
      rw [q, q2]
      exact ih
section
variable {X : Cx} {d : Addr} {kvs : List (Int × V)}
theorem IDict.map (D : IDict X.K d kvs) {h : Heap} (I : X.K.In h) : ∃ es : Array DictEntry, h.MapOf (intKind X.prog X.w) d (fun k => findBy Value.isInt es k) ∧ EntI es.toList kvs := by
  obtain ⟨es, n, l, e⟩ := D.ex
  refine ⟨es, ⟨_, es, n, I _ _ l, ⟨rfl, rfl, rfl⟩, rfl, fun x hx => ?_, fun _ => rfl⟩, e⟩
  have mem : ∀ {es : List DictEntry} {kvs : List (Int × V)}, EntI es kvs → ∀ x ∈ es, ∃ k t, x.key = Value.int k t ∧ x.hash = hashInt k := by
    intro es kvs r
    induction r with
    | nil => intro x hx; cases hx
    | cons h t ih =>
      intro x hx
      rcases List.mem_cons.mp hx with rfl | hx
      · obtain ⟨⟨u, e1⟩, e2, _⟩ := h
        exact ⟨_, u, e1, e2⟩
      · exact ih x hx
  obtain ⟨k, t, e1, e2⟩ := mem e x (Array.mem_toList_iff.mpr hx)
  exact ⟨k, by rw [e1]; exact intKind_is _ _ k t, e2⟩
theorem findE {es : Array DictEntry} (e : EntI es.toList kvs) (k : Int) : RelO (valI kvs k) (findBy Value.isInt es k) := by
  obtain ⟨l⟩ := es
  have := findI k e
  unfold findBy
  rw [List.find?_toArray]
  exact this
theorem isSome_of {a : Option V} {b : Option Value} (r : RelO a b) : b.isSome = a.isSome := by
  cases a <;> cases b <;> first | rfl | exact r.elim
/-- k in d, d a written dict with int keys -/
def rInI (d : Addr) (kvs : List (Int × V)) : R2 := fun x y H Q => ∃ k : Int, x = .int k ∧ y = .ref d ∧ Q (.bl (valI kvs k).isSome) H
theorem op_in_kdI (D : IDict X.K d kvs) : OpR X (compareOp .In) (rInI d kvs) := by
  intro pins s σ H x y v u Q I rx ry h
  obtain ⟨k, rfl, rfl, q⟩ := h
  obtain ⟨t, rfl⟩ := rx
  cases ry
  obtain ⟨es, m, e⟩ := D.map I.kIn
  refine wpAny_in_of (PySem.intKind_is X.prog X.w k t) D.low m ?_
  rw [isSome_of (findE e k)]
  exact ⟨.bl _, H, I.tok _, rfl, q⟩
/-- d[k] -/
def rIxI (d : Addr) (kvs : List (Int × V)) : R2 := fun x y H Q => ∃ (k : Int) (v : V), x = .ref d ∧ y = .int k ∧ valI kvs k = some v ∧ Q v H
theorem ix_kdI (D : IDict X.K d kvs) : IxR X (rIxI d kvs) := by
  intro value slice pins s σ H x y v u Q I rx ry h hs
  obtain ⟨k, z, rfl, rfl, hv, q⟩ := h
  cases rx
  obtain ⟨t, rfl⟩ := ry
  obtain ⟨es, m, e⟩ := D.map I.kIn
  have r := findE e k
  rw [hv] at r
  obtain ⟨u0, e0, ru⟩ := RelO.some_of r
  exact tail_any m.typeIs slot_dict_getitem.lookup (wpAny_getItem_of (PySem.intKind_is X.prog X.w k t) m e0 ⟨z, H, I.tok _, ru, q⟩) hs
end
/-! ### text * int -/
def repS (x : Str) (n : Nat) : Str := ⟨(List.replicate n x.cps.toList).flatten.toArray⟩
theorem foldl_app : ∀ (k : Nat) (xs : Array Nat) (acc : Array Nat), (List.replicate k xs).foldl (· ++ ·) acc = acc ++ (List.replicate k xs.toList).flatten.toArray
  | 0, xs, acc => by simp
  | k + 1, xs, acc => by
    rw [List.replicate_succ, List.foldl_cons, foldl_app k xs, List.replicate_succ, List.flatten_cons]
    apply Array.ext'
    simp [List.append_assoc]
theorem repS_tl (x : Str) (n : Nat) : (repS x n).cps.toList = (List.replicate n x.cps.toList).flatten := rfl
theorem op_mul_str {X : Cx} : OpR X (binaryOp .Mult) (fun x y H Q => ∃ (z : Str) (k : Int), x = .str z ∧ y = .int k ∧ 1 < k ∧ k < 1000 ∧ 0 < z.length ∧ z.length ≤ 1000 ∧ Q (.str (repS z k.toNat)) H) := by
  intro pins s σ H x y v u Q I rx ry h
  obtain ⟨z, k, rfl, rfl, h1, h2, h3, h4, q⟩ := h
  obtain ⟨t, rfl⟩ := rx
  obtain ⟨t', rfl⟩ := ry
  have hlen : (z.length == 0) = false := by simp; omega
  have hk1 : (k == 1) = false := by simp; omega
  refine PySem.P.mul_str (by
      rw [decide_eq_false (by omega), decide_eq_false (by omega)]; rfl) (fun _ _ => ?_) (fun _ _ => ?_) ?_
  · have : (1000 : Int) ≤ (2 ^ 63 - 1) / k := by
      rw [Int.le_ediv_iff_mul_le (by omega)]
      omega
    omega
  · have a1 : z.length * k.toNat ≤ 1000 * 1000 := Nat.mul_le_mul h4 (by omega)
    have a2 : ¬ (z.length * k.toNat > sizeLine) := by rw [sizeLine_eq]; omega
    show (decide _) = false
    first | exact decide_eq_false a2 | simp [a2]
  · rw [if_neg (by omega), hk1, hlen]
    simp only [Bool.or_self, Bool.false_eq_true, if_false]
    have e : (⟨(List.replicate k.toNat z.cps).foldl (· ++ ·) #[]⟩ : Str) = repS z k.toNat := by
      unfold repS
      rw [foldl_app]
      simp
    rw [e]
    refine ⟨?_, ⟨.str (repS z k.toNat), H, I.tok _, ⟨_, rfl⟩, q⟩⟩
    have a1 : z.length * k.toNat ≤ 1000 * 1000 := Nat.mul_le_mul h4 (by omega)
    have e2 : (repS z k.toNat).length = k.toNat * z.length := by
      show (List.replicate k.toNat z.cps.toList).flatten.toArray.size = _
      simp
      rfl
    rw [Nat.mul_comm] at a1
    first
      | exact decide_eq_false (by rw [e2, sizeLine_eq]; omega)
      | (rw [e2]; simp [sizeLine_eq]; omega)
      | (rw [e2, sizeLine_eq]; omega)
end Fld
namespace Fld
open PySem PySem.Spec PyProof.Rows L2
/-! ### enumerate(text) -/
/-- the signs of x, each in a new pair with its place -/
def ItS (x : Str) : It :=
  ⟨fun i H => i < x.cps.size, fun i H v H' => ∃ T c, v = .ref T ∧ H T = none ∧ H' = upd H T (.tup [.int (i : Nat), .str ⟨#[c]⟩]) ∧ x.cps[i]? = some c, fun i H => x.cps.size ≤ i⟩
theorem turn_enumS {P : Program} {w : World} {K : PySem.W.Frag} {elts : List Expr} {kk : Nat} {tpos : Pos} (x : Str) (t : Tok) (e it : Addr) :
    Turn P w K (.Tuple elts kk tpos) (ItS x) [e, it] e (fun i h => (∃ old, IsEnum h e it ((i : Nat) : Int) old) ∧ h.IsStrIter it (strIterType x) x t i ∧ e ≠ it ∧ i ≤ x.cps.size) where
  mem := by simp
  obj := fun i h st b hb => by
    obtain ⟨⟨old, he⟩, hi, _⟩ := st
    have e' : b = e ∨ b = it := by simpa using hb
    rcases e' with z | z
    · rw [z]; exact ⟨_, he, fun v q => nomatch q⟩
    · rw [z]; obtain ⟨o, ho, hc, hd⟩ := hi; exact ⟨_, ho, fun v q => by rw [hd] at q; cases q⟩
  keep := fun i h h' st k => let ⟨⟨old, he⟩, hi, hne, hl⟩ := st; ⟨⟨old, k e (by simp) _ he⟩, by obtain ⟨o, ho, hc, hd⟩ := hi; exact ⟨o, k it (by simp) o ho, hc, hd⟩, hne, hl⟩
  item := by
    intro X hP hw hK hc i pins s σ H E I hf st hg
    subst hP hw hK
    obtain ⟨⟨old, he⟩, hit, hne, hl⟩ := st
    have D := Draws.text (prog := X.prog) (w := X.w) (A := X.A.in1) (I.ok.hd hc) it x t
    have hel : e < s.heap.objs.size := Heap.lt_size he
    have hil : it < s.heap.objs.size := by obtain ⟨_, q⟩ := D.live i s.heap hit; exact Heap.lt_size q
    refine wpAny_pyNext_enum_itemC D he hit hg hne (by simp [hne]) fun u h' tk hP ho hit' hT hsz hk => ?_
    obtain ⟨c, tu, hx, rfl⟩ := hP
    refine ⟨_, rfl, wpAny_letOwnedTupleGo_enum (s := { s with heap := h', toks := tk + 1 }) ho fun h'' he' sb => ?_⟩
    have hT2 : h''.get? s.heap.objs.size = some { cls := .type "tuple", data := .seq #[.int i tk, .str ⟨#[c]⟩ tu] } := (sb.2 _ (Nat.ne_of_gt hel)).trans hT
    have new : ObjOk X.prog X.w (upd H s.heap.objs.size (.tup [.int (i : Nat), .str ⟨#[c]⟩])) h'' s.heap.objs.size (.tup [.int (i : Nat), .str ⟨#[c]⟩]) :=
      ⟨by show 2 ≤ sizeLine; decide, [.int i tk, .str ⟨#[c]⟩ tu], .cons ⟨_, rfl⟩ (.cons ⟨_, rfl⟩ .nil), ⟨_, hT2, rfl, _, rfl⟩⟩
    have I1 : Inv X pins σ (upd H s.heap.objs.size (.tup [.int (i : Nat), .str ⟨#[c]⟩])) { s with heap := h'', toks := tk + 1 } :=
      I.turnedNew (ch := [e, it]) (fun b ob hb q => (sb.2 b (fun z => hb (by simp [z]))).trans (hk b ob (fun z => hb (by simp [z])) (fun z => hb (by simp [z])) q)) hf (Nat.le_refl _) new
    refine ⟨.ref s.heap.objs.size, _, I1, rfl, ⟨_, c, rfl, I.hok.fresh (Nat.le_refl _), rfl, hx⟩, ⟨⟨.str ⟨#[c]⟩ tu, ?_⟩, D.frame _ _ _ hit' (fun b hb o q => ?_), hne, hg⟩, fun b hb => ?_⟩
    · have e1 : ((i + 1 : Nat) : Int) = (i : Int) + 1 := by omega
      rw [e1]; exact he'
    · have eb : b = it := by simpa using hb
      rw [eb] at q ⊢
      exact (sb.2 it (Ne.symm hne)).trans q
    · have hb' : b < s.heap.objs.size := by
        have e' : b = e ∨ b = it := by simpa using hb
        rcases e' with z | z
        · rw [z]; exact hel
        · rw [z]; exact hil
      rw [upd_ne (Nat.ne_of_lt hb')]
      exact (hf b hb).1
  done := by
    intro X hP hw hK hc i pins s σ H E I hf st hg
    subst hP hw hK
    obtain ⟨⟨old, he⟩, hit, hne, hl⟩ := st
    have ei : i = x.cps.size := Nat.le_antisymm hl hg
    subst ei
    have D := Draws.text (prog := X.prog) (w := X.w) (A := X.A.in1) (I.ok.hd hc) it x t
    obtain ⟨f0, f1, f2, f3, f4, f5⟩ := hf it (by simp)
    exact wpAny_pyNext_enum_endD D he hit fun h' eb => ⟨rfl, I.turned (t' := s.toks) (fun b o hb q => eb b o hb q) f0 f1 f3 f4 f5⟩
  self := fun A i s Q E st h => let ⟨⟨_, he⟩, _⟩ := st; wpAny_pyIter_enum he h
def iEnumS (ta : TA) : TI := fun σ H R => ta σ H fun vs H1 => ∃ x, vs = [.str x] ∧ R (ItS x) H1
theorem pi_enumS {X : Cx} {e : Expr} {ta : TA} {p pos tpos : Pos} {elts : List Expr} {kk : Nat} (hg : Gl X "enumerate") (hm : X.mg "enumerate" = none) (ha : PA X [e] ta) (hs : starEach [e] X.env = [(false, eval e X.env)] := by rfl) :
    PI X (.Tuple elts kk tpos) (.Call (.Name "enumerate" p) [e] [] pos) (iEnumS ta) := by
  refine ⟨fun pins s σ H R I h => ?_⟩
  refine Call_ (ld_blt I hg hm boot_enumerate (PyProof.Rows.callWith_type1 (thn (ha.run pos pins s σ H _ I h) fun us s1 ⟨vs, H1, I1, r1, q1⟩ => ?_) hs rfl))
  obtain ⟨x, ex, q⟩ := q1
  subst ex
  cases r1 with
  | cons r rr =>
    cases rr
    obtain ⟨t, rfl⟩ := r
    refine call_enumerate_str fun h' he hit hsz hk => wpAny_pyIter_enum he ?_
    have I2 : Inv X pins σ H1 { s1 with heap := h' } := I1.kept (t' := s1.toks) hk
    refine ⟨s1.heap.objs.size + 1, [s1.heap.objs.size + 1, s1.heap.objs.size], _, _, H1, rfl, I2, turn_enumS x t (s1.heap.objs.size + 1) s1.heap.objs.size, ⟨⟨.none, he⟩, hit, Nat.succ_ne_self _, Nat.zero_le _⟩, fun b hb => ?_, q⟩
    have e' : b = s1.heap.objs.size + 1 ∨ b = s1.heap.objs.size := by simpa using hb
    have hle : s1.heap.objs.size ≤ b := by
      rcases e' with z | z
      · rw [z]; exact Nat.le_add_right _ _
      · rw [z]; exact Nat.le_refl _
    exact I1.fpOk hle (I1.hok.fresh hle)
/-- the walk of it -/
theorem walk_enumS {x : Str} : Walk (ItS x) x.cps.size (fun _ => True) (fun i H v H' => ∃ T c, v = .ref T ∧ H T = none ∧ H' = upd H T (.tup [.int (i : Nat), .str ⟨#[c]⟩]) ∧ x.cps[i]? = some c) :=
  ⟨fun _ _ hi _ => hi, fun _ _ => Nat.le_refl _, fun _ _ _ _ _ _ y => y⟩
end Fld
namespace Fld
open PySem PySem.Spec PyProof.Rows L2
/-! ### the characters -/
def charCodes : List Nat := [32, 45, 46, 47, 48, 49, 50, 51, 52, 53, 54, 55, 56, 57, 58, 59, 61, 97, 98, 99, 100, 101, 102, 103, 104, 105, 106, 107, 108, 109, 110, 111, 112, 113, 114, 115, 116, 117, 118, 119, 120, 121, 122]
def chars : List (Int × V) := charCodes.map fun (c : Nat) => (((c : Nat) : Int), V.str ⟨#[c]⟩)
/-! ### the heap but for one object -/
def Off (p : Addr) (H : Hp) : Hp := fun b => if b = p then none else H b
/-- all but p stands -/
def But (p : Addr) (H H' : Hp) : Prop := ∀ b o, b ≠ p → H b = some o → H' b = some o
theorem But.refl (p : Addr) (H : Hp) : But p H H := fun _ _ _ h => h
theorem But.trans {p : Addr} {H H1 H2 : Hp} (a : But p H H1) (b : But p H1 H2) : But p H H2 := fun c o n h => b c o n (a c o n h)
theorem But.of {p : Addr} {H H' : Hp} (s : Same H H') : But p H H' := fun c o _ h => s c o h
theorem But.set {p : Addr} {H : Hp} {o : HO} : But p H (upd H p o) := fun c u n h => by rw [upd_ne n]; exact h
theorem But.new {p q : Addr} {H : Hp} {o : HO} (h : H q = none) : But p H (upd H q o) := fun c u n e => by rw [upd_ne (ne_of_none e h)]; exact e
theorem _root_.L2.Same.new {q : Addr} {H : Hp} {o : HO} (h : H q = none) : Same H (upd H q o) := fun c u e => by rw [upd_ne (ne_of_none e h)]; exact e
theorem But.put {p q : Addr} {H H' : Hp} {o : HO} (b : But p H H') (h : H q = none) : But p H (upd H' q o) := fun u v n e => by rw [upd_ne (ne_of_none e h)]; exact b u v n e
/-- what is true of all values of the heap but p -/
theorem But.none {p q : Addr} {H H' : Hp} (b : But p H H') (n : q ≠ p) (h : H' q = Option.none) : H q = Option.none := by
  cases e : H q with
  | none => rfl
  | some o => rw [b q o n e] at h; cases h
/-! ### the pen: a list of cells, how many were taken, what is left of the last -/
structure Pen (H : Hp) (p c : Addr) (n : Nat) : Prop where
  ex : ∃ (at_ : Nat) (acc : Int) (ns : List Int), H p = some (.lst [.ref c, .int (at_ : Nat), .int acc]) ∧ H c = some (.lst (ns.map V.int)) ∧ c ≠ p ∧ ns.length ≤ 63 ∧ at_ ≤ n
theorem Pen.mono {H : Hp} {p c : Addr} {n m : Nat} (h : Pen H p c n) (l : n ≤ m) : Pen H p c m := by
  obtain ⟨a, acc, ns, h1, h2, h3, h4, h5⟩ := h.ex
  exact ⟨a, acc, ns, h1, h2, h3, h4, Nat.le_trans h5 l⟩
theorem Pen.keep {H H' : Hp} {p c : Addr} {n : Nat} (h : Pen H p c n) (k : Same H H') : Pen H' p c n := by
  obtain ⟨a, acc, ns, h1, h2, h3, h4, h5⟩ := h.ex
  exact ⟨a, acc, ns, k _ _ h1, k _ _ h2, h3, h4, h5⟩
theorem Pen.some {H : Hp} {p c : Addr} {n : Nat} (h : Pen H p c n) : (∃ xs, H p = some (.lst xs)) ∧ ∃ xs, H c = some (.lst xs) := by
  obtain ⟨a, acc, ns, h1, h2, h3, h4, h5⟩ := h.ex
  exact ⟨⟨_, h1⟩, ⟨_, h2⟩⟩
theorem Pen.ne {H : Hp} {p c q : Addr} {n : Nat} (h : Pen H p c n) (hq : H q = none) : p ≠ q := by
  obtain ⟨⟨xs, e⟩, _⟩ := h.some
  exact ne_of_none e hq
theorem Pen.nec {H : Hp} {p c q : Addr} {n : Nat} (h : Pen H p c n) (hq : H q = none) : c ≠ q := by
  obtain ⟨_, ⟨xs, e⟩⟩ := h.some
  exact ne_of_none e hq
theorem Pen.upd {H : Hp} {p c q : Addr} {n : Nat} {o : HO} (h : Pen H p c n) (h1 : p ≠ q) (h2 : c ≠ q) : Pen (upd H q o) p c n := by
  obtain ⟨a, acc, ns, e1, e2, e3, e4, e5⟩ := h.ex
  exact ⟨a, acc, ns, by rw [upd_ne h1]; exact e1, by rw [upd_ne h2]; exact e2, e3, e4, e5⟩
/-- a draw: the pen may turn, all else stands -/
structure Drew (p c : Addr) (H H' : Hp) (n : Nat) : Prop where
  pen : Pen H' p c n
  but : But p H H'
theorem Drew.trans {p c : Addr} {H H1 H2 : Hp} {n m : Nat} (a : Drew p c H H1 n) (b : Drew p c H1 H2 m) : Drew p c H H2 m := ⟨b.pen, a.but.trans b.but⟩
theorem Drew.keep {p c : Addr} {H H1 H2 : Hp} {n : Nat} (a : Drew p c H H1 n) (s : Same H1 H2) : Drew p c H H2 n := ⟨a.pen.keep s, a.but.trans (But.of s)⟩
theorem Drew.mono {p c : Addr} {H H1 : Hp} {n m : Nat} (a : Drew p c H H1 n) (l : n ≤ m) : Drew p c H H1 m := ⟨a.pen.mono l, a.but⟩
theorem Drew.pre {p c : Addr} {H H1 H2 : Hp} {n : Nat} (s : Same H H1) (a : Drew p c H1 H2 n) : Drew p c H H2 n := ⟨a.pen, (But.of s).trans a.but⟩
/-- law's: a list of at most 63 ints is handed in, True comes out -/
def spLaw (K : PySem.W.Frag) : Sp := fun vs H Q _ => ∃ (a : Addr) (ns : List Int), vs = [.ref a] ∧ SqL K H a (ns.map V.int) ∧ ns.length ≤ 63 ∧ ∀ H', Q (.bl true) H'
end Fld
namespace Fld
open PySem PySem.Spec PyProof.Rows L2
/-! ### what kind of value -/
inductive Kind (K : PySem.W.Frag) (H : Hp) : V → String → Prop where
  | non : Kind K H .non "NoneType"
  | bl (b : Bool) : Kind K H (.bl b) "bool"
  | int (i : Int) : Kind K H (.int i) "int"
  | str (x : Str) : Kind K H (.str x) "str"
  | flt (x : UInt64) : Kind K H (.flt x) "float"
  | lst {a : Addr} {xs : List V} (h : SqL K H a xs) : Kind K H (.ref a) "list"
  | tup {a : Addr} {xs : List V} (h : SqT K H a xs) : Kind K H (.ref a) "tuple"
  | dK {a : Addr} {kvs : List (Key × V)} (h : H a = some (.dK kvs)) : Kind K H (.ref a) "dict"
theorem tyL {K : PySem.W.Frag} {H : Hp} {a : Addr} {xs : List V} (h : SqL K H a xs) : TyX K H (.ref a) (.type "list") := by
  rcases h with (h | ⟨o, h⟩) | ⟨o, its, n, h1, h2, _⟩
  · exact .base (.lst h)
  · exact .base (.frz h)
  · exact .kList h1 h2
theorem tyT {K : PySem.W.Frag} {H : Hp} {a : Addr} {xs : List V} (h : SqT K H a xs) : TyX K H (.ref a) (.type "tuple") := by
  rcases h with (h | ⟨o, h⟩) | ⟨o, its, n, h1, h2, _⟩
  · exact .base (.tup h)
  · exact .fTuple h
  · exact .kTuple h1 h2
theorem Kind.ty {K : PySem.W.Frag} {H : Hp} {v : V} {t : String} (k : Kind K H v t) : TyX K H v (.type t) := by
  cases k with
  | non => exact .base .non
  | bl b => exact .base (.bl b)
  | int i => exact .base (.int i)
  | str x => exact .base (.str x)
  | flt x => exact .base (.flt x)
  | lst h => exact tyL h
  | tup h => exact tyT h
  | dK h => exact .base (.dK h)
def subT (a b : String) : Bool := a == b || (a == "bool" && b == "int")
def clsNames : List String := ["int", "bool", "str", "list", "tuple", "dict"]
theorem kitAll : (["NoneType", "bool", "int", "str", "float", "list", "tuple", "dict"].all fun a => clsNames.all fun b => kitB a b == some (subT a b)) = true := by decide +kernel
theorem Kind.mem {K : PySem.W.Frag} {H : Hp} {v : V} {t : String} (k : Kind K H v t) : t ∈ ["NoneType", "bool", "int", "str", "float", "list", "tuple", "dict"] := by
  cases k <;> decide
theorem Kind.kit {K : PySem.W.Frag} {H : Hp} {v : V} {t b : String} (k : Kind K H v t) (hb : clsNames.contains b = true := by decide) : PySem.W.kitOne K (.type t) (.type b) = some (subT t b) := by
  have h := List.all_eq_true.mp kitAll t k.mem
  have h2 := List.all_eq_true.mp h b (List.contains_iff_mem.mp hb)
  exact kit_ty (eq_of_beq h2)
theorem Kind.kit2 {K : PySem.W.Frag} {H : Hp} {v : V} {t b c : String} (k : Kind K H v t) (hb : clsNames.contains b = true := by decide) (hc : clsNames.contains c = true := by decide) :
    PySem.W.kitAny K (.type t) [.type b, .type c] = some (subT t b || subT t c) := by
  refine kitAny_cons (k.kit hb) (fun e => ?_) fun e => ?_
  · rw [e]
    refine kitAny_cons (k.kit hc) (fun e2 => ?_) fun e2 => ?_
    · rw [e2]; exact kitAny_nil
    · rw [e2]; rfl
  · rw [e]; rfl
theorem Kind.keep {K : PySem.W.Frag} {H H' : Hp} {v : V} {t : String} (k : Kind K H v t) (s : Same H H') : Kind K H' v t := by
  cases k with
  | non => exact .non
  | bl b => exact .bl b
  | int i => exact .int i
  | str x => exact .str x
  | flt x => exact .flt x
  | lst h => exact .lst (s.seq h)
  | @tup a xs h =>
    refine .tup (xs := xs) ?_
    rcases h with (h | ⟨o, h⟩) | h
    · exact .inl (.inl (s _ _ h))
    · exact .inl (.inr ⟨o, s _ _ h⟩)
    · exact .inr h
  | dK h => exact .dK (s _ _ h)
theorem ifb {c : Bool} {A B : Prop} (h1 : c = true → A) (h2 : c = false → B) : if c = true then A else B := by
  cases c
  · rw [if_neg (by decide)]; exact h2 rfl
  · rw [if_pos rfl]; exact h1 rfl
theorem Q_bl {Q : VK} {a b : Bool} {H : Hp} (h : Q (.bl a) H) (e : a = b) : Q (.bl b) H := e ▸ h
theorem Q_int {Q : VK} {a b : Int} {H : Hp} (h : Q (.int a) H) (e : a = b) : Q (.int b) H := e ▸ h
/-! ### is_between -/
def btw : V → Int → Int → Bool
  | .int i, a, b => decide (a ≤ i) && decide (i ≤ b)
  | _, _, _ => false
def sp_is_between (K : PySem.W.Frag) : Sp := fun vs H Q _ => ∃ (v : V) (t : String) (a b : Int), vs = [v, .int a, .int b] ∧ Kind K H v t ∧ Q (.bl (btw v a b)) H
end Fld
namespace Fld
open PySem PySem.Spec PyProof.Rows L2
/-! ### comprehensions -/
section
variable {J : It} {n : Nat} {G : Hp → Prop} {Y : Nat → Hp → V → Hp → Prop} {g : TG} {tt : TT} {te : TE} {vs : List Nat} {σ : L2.St} {H1 : Hp} {D : Addr} {Qd : Hp → Prop}
theorem yesI {σ : L2.St} {H : Hp} {A B : Hp → Prop} (h : A H) : tYes σ H (fun b H3 => if b = true then A H3 else B H3) := by
  show (if true = true then A H else B H)
  rw [if_pos rfl]; exact h
/-- by an invariant of the turn, the items so far, the heap -/
theorem lc_gen (w : Walk J n G Y) (I : Nat → List V → Hp → Prop) (hz : n ≤ 1000000) (h0 : I 0 [] (upd H1 D (.lst []))) (hG : ∀ i ys H, I i ys H → G H)
    (hs : ∀ i ys x H' H'' (Q' : VK) (Z : Hp → Prop), i < n → ys.length = i → H' D = some (.lst ys) → I i ys H' → Y i H' x H'' → (∀ y H4, H4 D = some (.lst ys) → I (i + 1) (ys ++ [y]) (upd H4 D (.lst (ys ++ [y]))) → Q' y H4) →
      g x (wipe σ vs) H'' fun σ2 H2 => wipe σ2 vs = wipe σ vs ∧ tYes σ2 H2 fun b H3 => if b = true then te σ2 H3 Q' else Z H3)
    (hd : ∀ ys H', ys.length = n → H' D = some (.lst ys) → I n ys H' → Qd H') :
    ∃ W : Nat → Nat → Hp → Prop, (∃ m, W 0 m (upd H1 D (.lst []))) ∧ ∀ i m H, W i m H →
      (J.stop i H ∧ Qd H) ∨ (J.go i H ∧ ∃ Nx : Hp → Prop, (∀ H', Nx H' → ∃ m', m' < m ∧ W (i + 1) m' H') ∧ ∀ x H', J.yld i H x H' → g x (wipe σ vs) H' fun σ2 H2 => wipe σ2 vs = wipe σ vs ∧ tYes σ2 H2 fun b H3 =>
        if b = true then te σ2 H3 fun y H4 => ∃ acc, H4 D = some (.lst acc) ∧ acc.length < sizeLine ∧ Nx (upd H4 D (.lst (acc ++ [y]))) else Nx H3) := by
  refine lc_it w (fun i H => ∃ ys : List V, ys.length = i ∧ H D = some (.lst ys) ∧ I i ys H) ⟨[], rfl, upd_same, h0⟩ (fun i H _ ⟨ys, _, _, h⟩ => hG i ys H h) ?_ ?_
  · rintro i x H H' hi ⟨ys, hl, hD, h⟩ y
    refine hs i ys x H H' _ _ hi hl hD h y fun z H4 e4 h4 => ?_
    refine ⟨ys, e4, ?_, ys ++ [z], by simp [hl], upd_same, h4⟩
    rw [sizeLine_eq]
    omega
  · rintro H ⟨ys, hl, hD, h⟩
    exact hd ys H hl hD h
/-- each item its value, all that stood stands -/
theorem lc_map (w : Walk J n G Y) (f : Nat → V) (hz : n ≤ 1000000) (hD : H1 D = none) (hG : ∀ H, Same H1 H → G H)
    (hs : ∀ i x H' H'' (Q' : VK) (Z : Hp → Prop), i < n → Same H1 H' → Y i H' x H'' → (∀ H4, Same H' H4 → Q' (f i) H4) →
      g x (wipe σ vs) H'' fun σ2 H2 => wipe σ2 vs = wipe σ vs ∧ tYes σ2 H2 fun b H3 => if b = true then te σ2 H3 Q' else Z H3)
    (hd : ∀ H', Same H1 H' → H' D = some (.lst ((List.range n).map f)) → Qd H') :
    ∃ W : Nat → Nat → Hp → Prop, (∃ m, W 0 m (upd H1 D (.lst []))) ∧ ∀ i m H, W i m H →
      (J.stop i H ∧ Qd H) ∨ (J.go i H ∧ ∃ Nx : Hp → Prop, (∀ H', Nx H' → ∃ m', m' < m ∧ W (i + 1) m' H') ∧ ∀ x H', J.yld i H x H' → g x (wipe σ vs) H' fun σ2 H2 => wipe σ2 vs = wipe σ vs ∧ tYes σ2 H2 fun b H3 =>
        if b = true then te σ2 H3 fun y H4 => ∃ acc, H4 D = some (.lst acc) ∧ acc.length < sizeLine ∧ Nx (upd H4 D (.lst (acc ++ [y]))) else Nx H3) := by
  have up : ∀ H o, Same H1 H → Same H1 (upd H D o) := fun H o s b u e => by rw [upd_ne (ne_of_none e hD)]; exact s b u e
  refine lc_gen w (fun i ys H => Same H1 H ∧ ys = (List.range i).map f) hz ⟨up _ _ (Same.refl _), rfl⟩ (fun i ys H h => hG H h.1) ?_ ?_
  · rintro i ys x H H' Q' Z hi hl hDl ⟨s, rfl⟩ y q
    refine hs i x H H' Q' Z hi s y fun H4 s4 => q (f i) H4 (s4 D _ hDl) ⟨up _ _ (s.trans s4), ?_⟩
    rw [List.range_succ, List.map_append]
    rfl
  · rintro ys H hl hDl ⟨s, rfl⟩
    exact hd H s hDl
end
/-- the items of a list by their places -/
theorem range_map {α β : Type} (l : List α) (f : α → β) (d : α) : (List.range l.length).map (fun i => f (l.getD i d)) = l.map f := by
  apply List.ext_getElem?
  intro i
  by_cases h : i < l.length
  · simp [h]
  · have h2 : l.length ≤ i := Nat.not_lt.mp h
    simp [h2]
theorem getD_of {α : Type} {l : List α} {i : Nat} {c : α} (d : α) (h : l[i]? = some c) : l.getD i d = c := by
  rw [List.getD_eq_getElem?_getD, h]; rfl
theorem cps_at {x : Str} {i c : Nat} (h : x.cps[i]? = some c) : x.cps.toList[i]? = some c := by
  rw [Array.getElem?_toList]; exact h
/-! ### texts and numbers -/
def isChar (c : Nat) : Bool := charCodes.contains c
theorem valI_chars (c : Nat) : (valI chars (c : Int)) = if isChar c then some (.str ⟨#[c]⟩) else none := by
  unfold valI chars isChar
  have h : ∀ l : List Nat, ((l.map fun (c : Nat) => (((c : Nat) : Int), V.str ⟨#[c]⟩)).find? fun p => p.1 == (c : Int)).map (·.2) = if l.contains c then some (V.str ⟨#[c]⟩) else none := by
    intro l
    induction l with
    | nil => rfl
    | cons a r ih =>
      rw [List.map_cons, List.find?_cons, List.contains_cons]
      by_cases e : a = c
      · subst e; simp
      · have e1 : (((a : Nat) : Int) == (c : Int)) = false := by
          rw [beq_eq_false_iff_ne]; intro q; exact e (by omega)
        have e2 : (c == a) = false := by rw [beq_eq_false_iff_ne]; exact fun q => e q.symm
        simp only [e1, e2, Bool.false_or]
        exact ih
  exact h charCodes
def txt : V → Int → Int → Bool
  | .str x, a, b => decide (a ≤ (x.length : Int)) && decide ((x.length : Int) ≤ b) && x.cps.toList.all isChar
  | _, _, _ => false
def sp_is_text (K : PySem.W.Frag) : Sp := fun vs H Q _ => ∃ (v : V) (t : String) (a b : Int), vs = [v, .int a, .int b] ∧ Kind K H v t ∧ (∀ x, v = .str x → x.length ≤ 100000) ∧ ∀ H', Same H H' → Q (.bl (txt v a b)) H'
def sp_is_value (K : PySem.W.Frag) : Sp := fun vs H Q _ => ∃ (v : V) (t : String), vs = [v] ∧ Kind K H v t ∧ (∀ x, v = .str x → x.length ≤ 100000) ∧ ∀ H', Same H H' → Q (.bl (txt v 0 40)) H'
def sp_is_number (K : PySem.W.Frag) : Sp := fun vs H Q _ => ∃ (v : V) (t : String), vs = [v] ∧ Kind K H v t ∧ Q (.bl (btw v 0 9999)) H
def sp_prefix_bits : Sp := fun vs H Q _ => ∃ (b : Nat), vs = [.int (b : Nat)] ∧ b ≤ 64 ∧ Q (.int (2 ^ b - 1)) H
theorem len100 {n : Nat} (h : n ≤ 100000) : n ≤ sizeLine := by rw [sizeLine_eq]; omega
theorem str_len (x : Str) : x.length = x.cps.toList.length := rfl
end Fld
namespace Fld
open PySem PySem.Spec PyProof.Rows L2
theorem ifF {c : Bool} {A B : Prop} (h : c = false) (b : B) : if c = true then A else B := by
  rw [h, if_neg (by decide)]; exact b
theorem ifT {c : Bool} {A B : Prop} (h : c = true) (a : A) : if c = true then A else B := by
  rw [h, if_pos rfl]; exact a
theorem _root_.L2.Same.at {H H' : Hp} {p : Addr} {o : HO} (hp : H p = none) : Same H (upd H p o) := Same.new hp
theorem _root_.L2.Same.put {H H' : Hp} {p : Addr} {o : HO} (s : Same H H') (hp : H p = none) : Same H (upd H' p o) := fun b u e => by rw [upd_ne (ne_of_none e hp)]; exact s b u e
theorem _root_.L2.Same.tup {K : PySem.W.Frag} {H H' : Hp} {a : Addr} {xs : List V} (s : Same H H') (h : SqT K H a xs) : SqT K H' a xs := by
  rcases h with (h | ⟨o, h⟩) | h
  · exact .inl (.inl (s _ _ h))
  · exact .inl (.inr ⟨o, s _ _ h⟩)
  · exact .inr h
theorem btw_t {n a b : Int} (h1 : a ≤ n) (h2 : n ≤ b) : btw (.int n) a b = true := by
  show (decide (a ≤ n) && decide (n ≤ b)) = true
  rw [decide_eq_true h1, decide_eq_true h2]; rfl
/-! ### the octets of a number -/
def restOct (r : Nat) : List Int := if r < 128 then [(r : Int)] else (128 + (r : Int) % 128) :: restOct (r / 128)
termination_by r
theorem restOct_lt {r : Nat} (h : r < 128) : restOct r = [(r : Int)] := by rw [restOct, if_pos h]
theorem restOct_ge {r : Nat} (h : ¬ r < 128) : restOct r = (128 + (r : Int) % 128) :: restOct (r / 128) := by rw [restOct, if_neg h]
theorem restOct_len (r : Nat) : (restOct r).length ≤ r + 1 := by
  induction r using Nat.strongRecOn with
  | _ r ih =>
    by_cases h : r < 128
    · rw [restOct_lt h]; simp
    · rw [restOct_ge h, List.length_cons]
      have := ih (r / 128) (by omega)
      omega
def numOct (n b m : Nat) : List Int := if n < 2 ^ b - 1 then [((m + n : Nat) : Int)] else ((m + (2 ^ b - 1) : Nat) : Int) :: restOct (n - (2 ^ b - 1))
theorem numOct_len (n b m : Nat) : (numOct n b m).length ≤ n + 2 := by
  unfold numOct
  split
  · simp
  · have := restOct_len (n - (2 ^ b - 1))
    rw [List.length_cons]
    omega
theorem pow_pos2 (b : Nat) : 0 < 2 ^ b := Nat.pow_pos (by decide)
theorem bits_cast (b : Nat) : ((2 : Int) ^ b - 1) = ((2 ^ b - 1 : Nat) : Int) := by
  have h := pow_pos2 b
  have e : ((2 : Int) ^ b) = ((2 ^ b : Nat) : Int) := by norm_cast
  rw [e]
  omega
theorem pow_le8 {b : Nat} (h : b ≤ 8) : 2 ^ b ≤ 256 := Nat.le_trans (Nat.pow_le_pow_right (by decide) h) (by decide)
/-- a mark that leaves the prefix alone -/
def MarkOk (b m : Nat) : Prop := 1 ≤ b ∧ b ≤ 8 ∧ m ≤ 255 ∧ Builtin.bitAnd (m : Int) (((2 ^ b - 1 : Nat)) : Int) = 0
theorem and127 {r : Int} (h : 0 ≤ r) : Builtin.bitAnd r 127 = r % 128 := Bits.bitAnd_mask 7 h
/-- a new list of ints is handed back -/
def RetInts (ns : List Int) (H : Hp) (Q : VK) : Prop := ∀ p H', H p = none → Same H H' → H' p = some (.lst (ns.map V.int)) → Q (.ref p) H'
def sp_check_prefix : Sp := fun vs H Q _ => ∃ b m : Nat, vs = [.int (b : Nat), .int (m : Nat)] ∧ MarkOk b m ∧ Q .non H
def sp_number_octets : Sp := fun vs H Q _ => ∃ n b m : Nat, vs = [.int (n : Nat), .int (b : Nat), .int (m : Nat)] ∧ n ≤ 9999 ∧ MarkOk b m ∧ RetInts (numOct n b m) H Q
def sp_string_octets : Sp := fun vs H Q _ => ∃ (x : Str) (b m : Nat), vs = [.str x, .int (b : Nat), .int (m : Nat)] ∧ txt (.str x) 0 40 = true ∧ MarkOk b m ∧ RetInts (numOct x.length b m ++ x.cps.toList.map fun (c : Nat) => (c : Int)) H Q
def sp_law_number_octets : Sp := fun vs H Q _ => ∃ n b m : Nat, vs = [.int (n : Nat), .int (b : Nat), .int (m : Nat)] ∧ n ≤ 9999 ∧ b ≤ 8 ∧ RetInts (numOct n b m) H Q
def codeOf (c : Nat) : Int := if isChar c then (c : Int) else 0
def sp_law_code : Sp := fun vs H Q _ => ∃ c : Nat, vs = [.str ⟨#[c]⟩] ∧ ∀ H', Same H H' → Q (.int (codeOf c)) H'
def sp_law_text_octets : Sp := fun vs H Q _ => ∃ (x : Str) (b m : Nat), vs = [.str x, .int (b : Nat), .int (m : Nat)] ∧ x.length ≤ 9999 ∧ b ≤ 8 ∧ RetInts (numOct x.length b m ++ x.cps.toList.map codeOf) H Q
theorem txt_len {x : Str} (h : txt (.str x) 0 40 = true) : x.length ≤ 40 := by
  have h' : (decide ((0 : Int) ≤ (x.length : Int)) && decide ((x.length : Int) ≤ 40) && x.cps.toList.all isChar) = true := h
  simp only [Bool.and_eq_true, decide_eq_true_eq] at h'
  omega
theorem txt_all {x : Str} {a b : Int} (h : txt (.str x) a b = true) : x.cps.toList.all isChar = true := by
  have h' : (decide (a ≤ (x.length : Int)) && decide ((x.length : Int) ≤ b) && x.cps.toList.all isChar) = true := h
  rw [Bool.and_eq_true] at h'
  exact h'.2
def codeRows : List (List Nat) := [(" " : Str).cps.toList, ("-./0123456789:;" : Str).cps.toList, ("=" : Str).cps.toList, ("abcdefghijklmnopqrstuvwxyz" : Str).cps.toList]
theorem codeRows_all : codeRows.flatten = charCodes := by decide +kernel
theorem code_yes {c : Nat} (i : Nat) {r : List Nat} (h : codeRows[i]? = some r) (hm : c ∈ r) : isChar c = true := by
  unfold isChar
  rw [← codeRows_all]
  exact List.contains_iff_mem.mpr (List.mem_flatten.mpr ⟨r, List.mem_of_getElem? h, hm⟩)
theorem code_no {c : Nat} (i : Nat) {r : List Nat} (h : codeRows[i]? = some r) (hc : c ∉ (codeRows.take i).flatten) (hm : c ∉ r) : c ∉ (codeRows.take (i + 1)).flatten := by
  rw [List.take_add_one, h, List.flatten_append]
  intro z
  rcases List.mem_append.mp z with z | z
  · exact hc z
  · exact hm (by simpa using z)
theorem code_none {c : Nat} (hc : c ∉ (codeRows.take 4).flatten) : isChar c = false := by
  unfold isChar
  rw [← codeRows_all]
  have e : codeRows.take 4 = codeRows := rfl
  rw [e] at hc
  cases h : codeRows.flatten.contains c
  · rfl
  · exact absurd (List.contains_iff_mem.mp h) hc
theorem row_ok {x : Str} {first : Nat} (h : ((List.range x.cps.size).all fun i => x.cps.toList.getD i 0 == first + i) = true) : ∀ i r, x.cps[i]? = some r → r = first + i := by
  intro i r hr
  have hi : i < x.cps.size := (Array.getElem?_eq_some_iff.mp hr).1
  have e := eq_of_beq (List.all_eq_true.mp h i (List.mem_range.mpr hi))
  rw [getD_of 0 (cps_at hr)] at e
  exact e
theorem codes_chars {x : Str} (h : x.cps.toList.all isChar = true) : x.cps.toList.map codeOf = x.cps.toList.map fun (c : Nat) => (c : Int) := by
  apply List.map_congr_left
  intro c hc
  have := List.all_eq_true.mp h c hc
  unfold codeOf
  rw [if_pos this]
end Fld
namespace Fld
open PySem PySem.Spec PyProof.Rows L2
theorem at_ofN {α : Type} {xs : List α} {z : Int} {j : Nat} {v : α} (e : z = (j : Int)) (h : xs[j]? = some v) : atI xs z = some v := by
  rw [e]; exact atI_nat h
/-! ### slices by places -/
theorem cut_to (xs : List V) (k : Nat) : cutV xs none (some (k : Int)) = xs.take k := by
  unfold cutV
  rw [HT.sIx_none, HT.sIx_nat, List.drop_zero, Nat.sub_zero]
  by_cases h : k ≤ xs.length
  · rw [Nat.min_eq_left h]
  · rw [Nat.min_eq_right (by omega), List.take_of_length_le (Nat.le_refl _), List.take_of_length_le (by omega)]
theorem cut_mid (xs : List V) (a b : Nat) : cutV xs (some (a : Int)) (some (b : Int)) = (xs.drop a).take (b - a) := by
  unfold cutV
  rw [HT.sIx_nat, HT.sIx_nat]
  by_cases h : a ≤ xs.length
  · have e1 : min a xs.length = a := by omega
    rw [e1]
    by_cases h2 : b ≤ xs.length
    · have e2 : min b xs.length = b := by omega
      rw [e2]
    · rw [List.take_of_length_le (by rw [List.length_drop]; omega), List.take_of_length_le (by rw [List.length_drop]; omega)]
  · have e1 : min a xs.length = xs.length := by omega
    rw [e1, List.drop_eq_nil_of_le (Nat.le_refl _), List.drop_eq_nil_of_le (by omega), List.take_nil, List.take_nil]
theorem cut_from (xs : List V) (a : Nat) : cutV xs (some (a : Int)) none = xs.drop a := by
  unfold cutV
  rw [HT.sIx_nat, HT.sIx_none]
  by_cases h : a ≤ xs.length
  · rw [Nat.min_eq_left h, List.take_of_length_le (by rw [List.length_drop]; omega)]
  · rw [Nat.min_eq_right (by omega), List.drop_eq_nil_of_le (Nat.le_refl _), List.drop_eq_nil_of_le (by omega), List.take_nil]
/-! ### the spread -/
def primes : List Int := [2147483629, 2147483587, 2147483579, 2147483563, 2147483549, 2147483543, 2147483497, 2147483489, 2147483477, 2147483423, 2147483399, 2147483353, 2147483323]
theorem primes_at {k : Int} (h0 : 0 ≤ k) (h : k < 13) : ∃ r : Int, atI (primes.map V.int) k = some (.int r) ∧ 0 < r ∧ r < 2147483648 := by
  have hk : k.toNat < 13 := by omega
  have ek : k = ((k.toNat : Nat) : Int) := by omega
  have hall : ((List.range 13).all fun i => (primes[i]?).any fun r => decide (0 < r) && decide (r < 2147483648)) = true := by decide
  have h1 := List.all_eq_true.mp hall k.toNat (List.mem_range.mpr hk)
  cases e : primes[k.toNat]? with
  | none => rw [e] at h1; cases h1
  | some r =>
    rw [e] at h1
    have h2 : (decide (0 < r) && decide (r < 2147483648)) = true := h1
    rw [Bool.and_eq_true, decide_eq_true_eq, decide_eq_true_eq] at h2
    refine ⟨r, ?_, h2.1, h2.2⟩
    rw [ek]
    exact atI_nat (by rw [List.getElem?_map, e]; rfl)
theorem pow_small {i : Int} (h0 : 0 ≤ i) (h : i < 10 ^ 18) : i.natAbs < 2 ^ 64 := by
  have : (10 : Int) ^ 18 < 2 ^ 63 := by decide
  have e : (2 : Nat) ^ 64 = 18446744073709551616 := by decide
  have e2 : (10 : Int) ^ 18 = 1000000000000000000 := by decide
  omega
theorem mul_bd {a b A B : Int} (h1 : 0 ≤ a) (h2 : a ≤ A) (h3 : 0 ≤ b) (h4 : b ≤ B) : 0 ≤ a * b ∧ a * b ≤ A * B :=
  ⟨Int.mul_nonneg h1 h3, Int.mul_le_mul h2 h4 h3 (Int.le_trans h1 h2)⟩
theorem mul64 {a b : Int} (h1 : 0 ≤ a) (h2 : a < 10 ^ 18) : CMul a b := by
  have e : (2 : Int) ^ 64 = 18446744073709551616 := by decide
  have e2 : (10 : Int) ^ 18 = 1000000000000000000 := by decide
  refine .inl ⟨?_, ?_⟩ <;> omega
def sp_law_spread : Sp := fun vs H Q _ => ∃ (cell : Int) (a : Nat), vs = [.int cell, .int (a : Nat)] ∧ a ≤ 1000000 ∧ ∀ (r : Int) H', Same H H' → Q (.int r) H'
def sp_law_open (K : PySem.W.Frag) : Sp := fun vs H Q _ => ∃ (a : Addr) (ns : List Int), vs = [.ref a] ∧ SqL K H a (ns.map V.int) ∧ ns.length ≤ 63 ∧ ∀ p c H', H p = none → Same H H' → Pen H' p c 0 → Q (.ref p) H'
def sp_law_take : Sp := fun vs H Q _ => ∃ (p c : Addr) (n : Nat) (k : Int), vs = [.ref p, .int k] ∧ Pen H p c n ∧ 0 < k ∧ k < 1073741824 ∧ n ≤ 900000 ∧ ∀ (r : Int) H', 0 ≤ r → r < k → Drew p c H H' (n + 1) → Q (.int r) H'
/-- one of a list's items, whatever they are -/
def sp_law_one_of (K : PySem.W.Frag) : Sp := fun vs H Q _ => ∃ (p c a : Addr) (n : Nat) (xs : List V), vs = [.ref p, .ref a] ∧ Pen H p c n ∧ SqL K H a xs ∧ a ≠ p ∧ xs ≠ [] ∧ xs.length ≤ 1000 ∧ n ≤ 900000 ∧ ∀ (x : V) H', x ∈ xs → Drew p c H H' (n + 1) → Q x H'
def signs : Str := " -./0123456789:;=abcdefghijklmnopqrstuvwxyz"
def sp_law_signs : Sp := fun vs H Q _ => vs = [] ∧ Q (.str signs) H
theorem signs_cps : signs.cps.toList = charCodes := by decide +kernel
theorem But.seq {K : PySem.W.Frag} {p : Addr} {H H' : Hp} {a : Addr} {xs : List V} (b : But p H H') (n : a ≠ p) (h : SqL K H a xs) : SqL K H' a xs := by
  rcases h with (h | ⟨o, h⟩) | h
  · exact .inl (.inl (b _ _ n h))
  · exact .inl (.inr ⟨o, b _ _ n h⟩)
  · exact .inr h
end Fld
namespace Fld
open PySem PySem.Spec PyProof.Rows L2
def sp_law_draw_text : Sp := fun vs H Q _ => ∃ (p c : Addr) (n a b : Nat), vs = [.ref p, .int (a : Nat), .int (b : Nat)] ∧ Pen H p c n ∧ n ≤ 800000 ∧ a ≤ 1 ∧ a ≤ b ∧ b ≤ 40 ∧ ∀ (x : Str) H', txt (.str x) a b = true → Drew p c H H' (n + 50) → Q (.str x) H'
def sp_law_draw_number : Sp := fun vs H Q _ => ∃ (p c : Addr) (n : Nat), vs = [.ref p] ∧ Pen H p c n ∧ n ≤ 800000 ∧ ∀ (z : Nat) H', z ≤ 9999 → Drew p c H H' (n + 10) → Q (.int (z : Nat)) H'
theorem txt_of {x : Str} {a b : Int} (h1 : a ≤ (x.length : Int)) (h2 : (x.length : Int) ≤ b) (h3 : x.cps.toList.all isChar = true) : txt (.str x) a b = true := by
  show (decide (a ≤ (x.length : Int)) && decide ((x.length : Int) ≤ b) && x.cps.toList.all isChar) = true
  rw [decide_eq_true h1, decide_eq_true h2, h3]; rfl
/-- a text of one sign after another -/
theorem join_signs (cs : List Nat) : Txt.join ⟨#[]⟩ (cs.map fun c => (⟨#[c]⟩ : Str)) = ⟨cs.toArray⟩ := by
  rw [TL.join_eq]
  apply TL.ext_tl
  rw [TL.tl_join]
  have h : ∀ l : List Nat, TL.joinL (TL.tl (⟨#[]⟩ : Str)) ((l.map fun c => (⟨#[c]⟩ : Str)).map TL.tl) = l := by
    intro l
    induction l with
    | nil => rfl
    | cons a r ih =>
      cases r with
      | nil => rfl
      | cons b r' =>
        show [a] ++ ([] ++ TL.joinL [] _) = a :: b :: r'
        exact congrArg (a :: ·) ih
  rw [h]
/-- the first signs of a word repeated -/
theorem rep_all {z : Str} {n : Nat} (h : z.cps.toList.all isChar = true) : (repS z n).cps.toList.all isChar = true := by
  rw [repS_tl]
  rw [List.all_eq_true]
  intro c hc
  obtain ⟨l, hl, hcl⟩ := List.mem_flatten.mp hc
  rw [List.mem_replicate] at hl
  rw [hl.2] at hcl
  exact List.all_eq_true.mp h c hcl
theorem rep_len (z : Str) (n : Nat) : (repS z n).length = n * z.length := by
  show (List.replicate n z.cps.toList).flatten.toArray.size = _
  simp
  rfl
theorem cutS_to (x : Str) (k : Nat) : (cutS x none (some (k : Int))).cps.toList = x.cps.toList.take k := by
  unfold cutS
  show (x.cps.toList.drop _).take _ = _
  rw [HT.sIx_none, HT.sIx_nat, List.drop_zero, Nat.sub_zero]
  have e : x.length = x.cps.toList.length := rfl
  rw [e]
  by_cases h : k ≤ x.cps.toList.length
  · rw [Nat.min_eq_left h]
  · rw [Nat.min_eq_right (by omega), List.take_of_length_le (Nat.le_refl _), List.take_of_length_le (by omega)]
theorem txt_cut {x : Str} {a b k : Nat} (h1 : 9 ≤ x.length) (h2 : a ≤ 1 ∧ a ≤ k ∧ k ≤ b) (h3 : x.cps.toList.all isChar = true) : txt (.str (cutS x none (some (k : Int)))) a b = true := by
  have e : (cutS x none (some (k : Int))).cps.toList = x.cps.toList.take k := cutS_to x k
  have hl : (cutS x none (some (k : Int))).length = min k x.length := by
    show (cutS x none (some (k : Int))).cps.size = _
    rw [← Array.length_toList, e, List.length_take]
    rfl
  refine txt_of (by omega) (by omega) ?_
  rw [e, List.all_eq_true]
  intro c hc
  exact List.all_eq_true.mp h3 c (List.mem_of_mem_take hc)
def textWords : List Str := ["path", "accept-encoding", "a", ":method", "x=1; y=2"]
theorem words_ok : (textWords.all fun z => z.cps.toList.all isChar && decide (0 < z.length) && decide (z.length ≤ 15)) = true := by decide +kernel
/-! ### data of a bounded depth -/
def DLe : Nat → PyData → Prop
  | _, .none => True
  | _, .bool _ => True
  | _, .int _ => True
  | _, .str _ => True
  | 0, .list _ => False
  | 0, .tuple _ => False
  | n + 1, .list ds => ds.length ≤ 100000 ∧ ∀ d ∈ ds, DLe n d
  | n + 1, .tuple ds => ds.length ≤ 100000 ∧ ∀ d ∈ ds, DLe n d
  | _, _ => False
theorem dpAll_len {K : PySem.W.Frag} {H : Hp} : ∀ {xs : List V} {ds : List PyData}, DpAll K H xs ds → xs.length = ds.length
  | _, _, .nil => rfl
  | _, _, .cons _ t => by rw [List.length_cons, List.length_cons, dpAll_len t]
theorem dpAll_at {K : PySem.W.Frag} {H : Hp} : ∀ {xs : List V} {ds : List PyData} {i : Nat} {x : V}, DpAll K H xs ds → xs[i]? = some x → ∃ d, ds[i]? = some d ∧ Dp K H x d
  | _, _, _, _, .nil, e => by simp at e
  | _, _, 0, _, .cons h _, e => by simp at e; subst e; exact ⟨_, rfl, h⟩
  | _, _, i + 1, x, .cons _ t, e => by
    obtain ⟨d, h1, h2⟩ := dpAll_at (i := i) (x := x) t (by simpa using e)
    exact ⟨d, by simpa using h1, h2⟩
mutual
theorem dp_keep {K : PySem.W.Frag} {H H' : Hp} (s : Same H H') : ∀ {v : V} {d : PyData}, Dp K H v d → Dp K H' v d
  | _, _, .non => .non
  | _, _, .bl b => .bl b
  | _, _, .int i => .int i
  | _, _, .str x => .str x
  | _, _, .lst h a => .lst (s.seq h) (dpAll_keep s a)
  | _, _, .tup h a => .tup (s.tup h) (dpAll_keep s a)
theorem dpAll_keep {K : PySem.W.Frag} {H H' : Hp} (s : Same H H') : ∀ {vs : List V} {ds : List PyData}, DpAll K H vs ds → DpAll K H' vs ds
  | _, _, .nil => .nil
  | _, _, .cons h t => .cons (dp_keep s h) (dpAll_keep s t)
end
/-- _law_same on two values of the same data -/
def sp_law_same (K : PySem.W.Frag) (n : Nat) : Sp := fun vs H Q _ => ∃ (v u : V) (d : PyData), vs = [v, u] ∧ Dp K H v d ∧ Dp K H u d ∧ DLe n d ∧ ∀ H', Same H H' → Q (.bl true) H'
def sp_same_sub (K : PySem.W.Frag) : Nat → Sp
  | 0 => fun _ _ _ _ => False
  | m + 1 => sp_law_same K m
theorem walk_zipT {K : PySem.W.Frag} {a b : Addr} {xs ys : List V} {n : Nat} (hn : n = min xs.length ys.length) : Walk (RZ.ItzT K a b) n (fun H => SqT K H a xs ∧ SqT K H b ys) (YPair (fun i => xs[i]?) (fun i => ys[i]?)) := by
  subst hn
  refine ⟨fun i _ hi q => ?_, fun _ q => ⟨xs, ys, q.1, q.2, by omega⟩, fun i H v H' _ q y => ?_⟩
  · have h1 : i < xs.length := by omega
    have h2 : i < ys.length := by omega
    exact ⟨xs, ys, xs[i], ys[i], q.1, q.2, by simp [h1], by simp [h2]⟩
  · obtain ⟨T, x, z, h1, h2, h3, h4, h5⟩ := y
    exact ⟨T, x, z, h1, h2, h3, h4 xs q.1, h5 ys q.2⟩
theorem flat_trues (n : Nat) : ((List.range n).map fun _ => V.bl true).all flatV = true := by
  rw [List.all_map]; exact List.all_eq_true.mpr fun _ _ => rfl
theorem in_trues (n : Nat) : inV (.bl false) ((List.range n).map fun _ => V.bl true) = false := by
  unfold inV
  rw [List.any_map, List.any_eq_false]
  intro i _
  show ¬ (eqV (.bl true) (.bl false)) = true
  decide
/-- ints as data -/
theorem dp_ints {K : PySem.W.Frag} {H : Hp} : ∀ ns : List Int, DpAll K H (ns.map V.int) (ns.map PyData.int)
  | [] => .nil
  | n :: r => .cons (.int n) (dp_ints r)
theorem dp_lst {K : PySem.W.Frag} {H : Hp} {a : Addr} {ns : List Int} (h : H a = some (.lst (ns.map V.int))) : Dp K H (.ref a) (.list (ns.map PyData.int)) := .lst (SqL.of h) (dp_ints ns)
theorem dle_ints {ns : List Int} (h : ns.length ≤ 100000) (n : Nat) : DLe (n + 1) (.list (ns.map PyData.int)) := by
  refine ⟨by rw [List.length_map]; exact h, fun d hd => ?_⟩
  obtain ⟨i, _, rfl⟩ := List.mem_map.mp hd
  cases n <;> exact True.intro
end Fld
namespace Fld
open PySem PySem.Spec PyProof.Rows L2
/-! ### the text by places -/
def top (i : Nat) : Stmt := PySem.Challenge.pw_fieldtable_k01_numbers_and_strings_writt.main.body.getD i (.Pass ⟨0, 0, 0, 0⟩)
abbrev s_is_between : Stmt := top 7
abbrev s_is_number : Stmt := top 8
abbrev s_is_text : Stmt := top 9
abbrev s_is_value : Stmt := top 10
abbrev s_check_prefix : Stmt := top 11
abbrev s_prefix_bits : Stmt := top 12
abbrev s_number_octets : Stmt := top 13
abbrev s_string_octets : Stmt := top 14
abbrev s_law_open : Stmt := top 16
abbrev s_law_spread : Stmt := top 17
abbrev s_law_take : Stmt := top 18
abbrev s_law_same : Stmt := top 19
abbrev s_law_one_of : Stmt := top 20
abbrev s_law_signs : Stmt := top 21
abbrev s_law_draw_text : Stmt := top 22
abbrev s_law_draw_number : Stmt := top 23
abbrev s_law_number_octets : Stmt := top 24
abbrev s_law_code : Stmt := top 25
abbrev s_law_text_octets : Stmt := top 26
abbrev s_law : Stmt := top 27
/-- what the top has written -/
structure Txt (K : PySem.W.Frag) (mg : Str → Option Value) where
  f_is_between : Addr
  d_is_between : FuncData
  F_is_between : Fun K "is_between" "is_between" s_is_between f_is_between d_is_between
  b_is_between : Binds K d_is_between ["thing", "least", "most"] []
  g_is_between : mg "is_between" = some (.ref f_is_between)
  f_is_number : Addr
  d_is_number : FuncData
  F_is_number : Fun K "is_number" "is_number" s_is_number f_is_number d_is_number
  b_is_number : Binds K d_is_number ["thing"] []
  g_is_number : mg "is_number" = some (.ref f_is_number)
  f_is_text : Addr
  d_is_text : FuncData
  F_is_text : Fun K "is_text" "is_text" s_is_text f_is_text d_is_text
  b_is_text : Binds K d_is_text ["thing", "least", "most"] []
  g_is_text : mg "is_text" = some (.ref f_is_text)
  f_is_value : Addr
  d_is_value : FuncData
  F_is_value : Fun K "is_value" "is_value" s_is_value f_is_value d_is_value
  b_is_value : Binds K d_is_value ["thing"] []
  g_is_value : mg "is_value" = some (.ref f_is_value)
  f_check_prefix : Addr
  d_check_prefix : FuncData
  F_check_prefix : Fun K "check_prefix" "check_prefix" s_check_prefix f_check_prefix d_check_prefix
  b_check_prefix : Binds K d_check_prefix ["prefix", "mark"] []
  g_check_prefix : mg "check_prefix" = some (.ref f_check_prefix)
  f_prefix_bits : Addr
  d_prefix_bits : FuncData
  F_prefix_bits : Fun K "prefix_bits" "prefix_bits" s_prefix_bits f_prefix_bits d_prefix_bits
  b_prefix_bits : Binds K d_prefix_bits ["prefix"] []
  g_prefix_bits : mg "prefix_bits" = some (.ref f_prefix_bits)
  f_number_octets : Addr
  d_number_octets : FuncData
  F_number_octets : Fun K "number_octets" "number_octets" s_number_octets f_number_octets d_number_octets
  b_number_octets : Binds K d_number_octets ["number", "prefix", "mark"] []
  g_number_octets : mg "number_octets" = some (.ref f_number_octets)
  f_string_octets : Addr
  d_string_octets : FuncData
  F_string_octets : Fun K "string_octets" "string_octets" s_string_octets f_string_octets d_string_octets
  b_string_octets : Binds K d_string_octets ["text", "prefix", "mark"] []
  g_string_octets : mg "string_octets" = some (.ref f_string_octets)
  f_law_open : Addr
  d_law_open : FuncData
  F_law_open : Fun K "_law_open" "_law_open" s_law_open f_law_open d_law_open
  b_law_open : Binds K d_law_open ["script"] []
  g_law_open : mg "_law_open" = some (.ref f_law_open)
  f_law_spread : Addr
  d_law_spread : FuncData
  F_law_spread : Fun K "_law_spread" "_law_spread" s_law_spread f_law_spread d_law_spread
  b_law_spread : Binds K d_law_spread ["cell", "at"] []
  g_law_spread : mg "_law_spread" = some (.ref f_law_spread)
  f_law_take : Addr
  d_law_take : FuncData
  F_law_take : Fun K "_law_take" "_law_take" s_law_take f_law_take d_law_take
  b_law_take : Binds K d_law_take ["pen", "amount"] []
  g_law_take : mg "_law_take" = some (.ref f_law_take)
  f_law_same : Addr
  d_law_same : FuncData
  F_law_same : Fun K "_law_same" "_law_same" s_law_same f_law_same d_law_same
  b_law_same : Binds K d_law_same ["found", "due"] []
  g_law_same : mg "_law_same" = some (.ref f_law_same)
  f_law_one_of : Addr
  d_law_one_of : FuncData
  F_law_one_of : Fun K "_law_one_of" "_law_one_of" s_law_one_of f_law_one_of d_law_one_of
  b_law_one_of : Binds K d_law_one_of ["pen", "some"] []
  g_law_one_of : mg "_law_one_of" = some (.ref f_law_one_of)
  f_law_signs : Addr
  d_law_signs : FuncData
  F_law_signs : Fun K "_law_signs" "_law_signs" s_law_signs f_law_signs d_law_signs
  b_law_signs : Binds K d_law_signs [] []
  g_law_signs : mg "_law_signs" = some (.ref f_law_signs)
  f_law_draw_text : Addr
  d_law_draw_text : FuncData
  F_law_draw_text : Fun K "_law_draw_text" "_law_draw_text" s_law_draw_text f_law_draw_text d_law_draw_text
  b_law_draw_text : Binds K d_law_draw_text ["pen", "least", "most"] []
  g_law_draw_text : mg "_law_draw_text" = some (.ref f_law_draw_text)
  f_law_draw_number : Addr
  d_law_draw_number : FuncData
  F_law_draw_number : Fun K "_law_draw_number" "_law_draw_number" s_law_draw_number f_law_draw_number d_law_draw_number
  b_law_draw_number : Binds K d_law_draw_number ["pen"] []
  g_law_draw_number : mg "_law_draw_number" = some (.ref f_law_draw_number)
  f_law_number_octets : Addr
  d_law_number_octets : FuncData
  F_law_number_octets : Fun K "_law_number_octets" "_law_number_octets" s_law_number_octets f_law_number_octets d_law_number_octets
  b_law_number_octets : Binds K d_law_number_octets ["number", "prefix", "mark"] []
  g_law_number_octets : mg "_law_number_octets" = some (.ref f_law_number_octets)
  f_law_code : Addr
  d_law_code : FuncData
  F_law_code : Fun K "_law_code" "_law_code" s_law_code f_law_code d_law_code
  b_law_code : Binds K d_law_code ["sign"] []
  g_law_code : mg "_law_code" = some (.ref f_law_code)
  f_law_text_octets : Addr
  d_law_text_octets : FuncData
  F_law_text_octets : Fun K "_law_text_octets" "_law_text_octets" s_law_text_octets f_law_text_octets d_law_text_octets
  b_law_text_octets : Binds K d_law_text_octets ["text", "prefix", "mark"] []
  g_law_text_octets : mg "_law_text_octets" = some (.ref f_law_text_octets)
  f_law : Addr
  d_law : FuncData
  F_law : Fun K "law" "law" s_law f_law d_law
  b_law : Binds K d_law ["script"] []
  g_law : mg "law" = some (.ref f_law)
  t_NUMBER_MOST : Tok
  g_NUMBER_MOST : mg "NUMBER_MOST" = some (.int 9999 t_NUMBER_MOST)
  t_VALUE_MOST : Tok
  g_VALUE_MOST : mg "VALUE_MOST" = some (.int 40 t_VALUE_MOST)
  a_CHARACTERS : Addr
  g_CHARACTERS : mg "CHARACTERS" = some (.ref a_CHARACTERS)
  CHARACTERS_d : IDict K a_CHARACTERS chars
  z_all : mg "all" = none
  z_bool : mg "bool" = none
  z_enumerate : mg "enumerate" = none
  z_int : mg "int" = none
  z_isinstance : mg "isinstance" = none
  z_len : mg "len" = none
  z_list : mg "list" = none
  z_max : mg "max" = none
  z_min : mg "min" = none
  z_ord : mg "ord" = none
  z_range : mg "range" = none
  z_str : mg "str" = none
  z_tuple : mg "tuple" = none
  z_zip : mg "zip" = none
theorem sc_is_between : FnScope ["thing", "least", "most"] ["thing", "least", "most"] (defScope s_is_between) := ⟨rfl, rfl, rfl, by decide +kernel, rfl, by decide +kernel, by decide +kernel⟩
theorem sc_is_number : FnScope ["thing"] ["thing"] (defScope s_is_number) := ⟨rfl, rfl, rfl, by decide +kernel, rfl, by decide +kernel, by decide +kernel⟩
theorem sc_is_text : FnScope ["thing", "least", "most", "character"] ["thing", "least", "most"] (defScope s_is_text) := ⟨rfl, rfl, rfl, by decide +kernel, rfl, by decide +kernel, by decide +kernel⟩
theorem sc_is_value : FnScope ["thing"] ["thing"] (defScope s_is_value) := ⟨rfl, rfl, rfl, by decide +kernel, rfl, by decide +kernel, by decide +kernel⟩
theorem sc_check_prefix : FnScope ["prefix", "mark"] ["prefix", "mark"] (defScope s_check_prefix) := ⟨rfl, rfl, rfl, by decide +kernel, rfl, by decide +kernel, by decide +kernel⟩
theorem sc_prefix_bits : FnScope ["prefix"] ["prefix"] (defScope s_prefix_bits) := ⟨rfl, rfl, rfl, by decide +kernel, rfl, by decide +kernel, by decide +kernel⟩
theorem sc_number_octets : FnScope ["number", "prefix", "mark", "bits", "octets", "rest"] ["number", "prefix", "mark"] (defScope s_number_octets) := ⟨rfl, rfl, rfl, by decide +kernel, rfl, by decide +kernel, by decide +kernel⟩
theorem sc_string_octets : FnScope ["text", "prefix", "mark", "character"] ["text", "prefix", "mark"] (defScope s_string_octets) := ⟨rfl, rfl, rfl, by decide +kernel, rfl, by decide +kernel, by decide +kernel⟩
theorem sc_law_open : FnScope ["script", "cells", "k", "cell"] ["script"] (defScope s_law_open) := ⟨rfl, rfl, rfl, by decide +kernel, rfl, by decide +kernel, by decide +kernel⟩
theorem sc_law_spread : FnScope ["cell", "at", "primes", "one", "two", "three"] ["cell", "at"] (defScope s_law_spread) := ⟨rfl, rfl, rfl, by decide +kernel, rfl, by decide +kernel, by decide +kernel⟩
theorem sc_law_take : FnScope ["pen", "amount", "at", "cell", "found"] ["pen", "amount"] (defScope s_law_take) := ⟨rfl, rfl, rfl, by decide +kernel, rfl, by decide +kernel, by decide +kernel⟩
theorem sc_law_same : FnScope ["found", "due", "one", "other"] ["found", "due"] (defScope s_law_same) := ⟨rfl, rfl, rfl, by decide +kernel, rfl, by decide +kernel, by decide +kernel⟩
theorem sc_law_one_of : FnScope ["pen", "some"] ["pen", "some"] (defScope s_law_one_of) := ⟨rfl, rfl, rfl, by decide +kernel, rfl, by decide +kernel, by decide +kernel⟩
theorem sc_law_signs : FnScope [] [] (defScope s_law_signs) := ⟨rfl, rfl, rfl, by decide +kernel, rfl, by decide +kernel, by decide +kernel⟩
theorem sc_law_draw_text : FnScope ["pen", "least", "most", "size", "k"] ["pen", "least", "most"] (defScope s_law_draw_text) := ⟨rfl, rfl, rfl, by decide +kernel, rfl, by decide +kernel, by decide +kernel⟩
theorem sc_law_draw_number : FnScope ["pen", "near", "some"] ["pen"] (defScope s_law_draw_number) := ⟨rfl, rfl, rfl, by decide +kernel, rfl, by decide +kernel, by decide +kernel⟩
theorem sc_law_number_octets : FnScope ["number", "prefix", "mark", "full", "bit", "found", "rest"] ["number", "prefix", "mark"] (defScope s_law_number_octets) := ⟨rfl, rfl, rfl, by decide +kernel, rfl, by decide +kernel, by decide +kernel⟩
theorem sc_law_code : FnScope ["sign", "first", "row", "k", "one"] ["sign"] (defScope s_law_code) := ⟨rfl, rfl, rfl, by decide +kernel, rfl, by decide +kernel, by decide +kernel⟩
theorem sc_law_text_octets : FnScope ["text", "prefix", "mark", "sign"] ["text", "prefix", "mark"] (defScope s_law_text_octets) := ⟨rfl, rfl, rfl, by decide +kernel, rfl, by decide +kernel, by decide +kernel⟩
theorem sc_law : FnScope ["script", "pen", "turn", "number", "prefix", "unit", "bit", "mark", "found", "text"] ["script"] (defScope s_law) := ⟨rfl, rfl, rfl, by decide +kernel, rfl, by decide +kernel, by decide +kernel⟩
section
variable {P : Program} {w : World} {K : PySem.W.Frag} {mg : Str → Option Value} {base : Heap}
theorem ok_is_between (T : Txt K mg) : FnOk P w K mg base CX0 1 T.f_is_between T.d_is_between ["thing", "least", "most"] (sp_is_between K) := by
  refine T.F_is_between.ok sc_is_between (fun vs H Q E h => ?_) (fun cdv A outer s H vs Q E hr h => ?_)
  · obtain ⟨v, t, a, b, rfl, _⟩ := h
    rfl
  · obtain ⟨v, t, a, b, rfl, k, q⟩ := h
    refine ⟨_, (pss_one (ps_ret (pe_and (pe_callB call_isi rfl T.z_isinstance boot_isinstance (pa_cons (pv 0) (pa_cons (pe_bltn (v := .ty "int") rfl T.z_int boot_int rfl) pa_nil))) (pe_and (pe_not (pe_callB call_isi rfl T.z_isinstance boot_isinstance (pa_cons (pv 0) (pa_cons (pe_bltn (v := .ty "bool") rfl T.z_bool boot_bool rfl) pa_nil)))) (pe_one (pe_chain op_le op_le (pv 1) (pv 0) (pv 2))))))), ?_⟩
    refine ⟨_, rfl, _, _, _, _, _, rfl, .ty _, k.ty, k.kit, _, rfl, ifb (fun e => ?_) (fun e => ?_)⟩
    · refine ⟨_, rfl, _, _, _, _, _, rfl, .ty _, k.ty, k.kit, _, rfl, _, rfl, ifb (fun e2 => ?_) (fun e2 => ?_)⟩
      · have ei : t = "int" := by
          cases k <;> first | rfl | (exfalso; revert e e2; decide)
        cases k <;> first | (exact absurd ei (by decide)) | skip
        rename_i i
        refine ⟨_, rfl, _, rfl, _, _, rfl, rfl, _, rfl, ifb (fun e3 => ?_) (fun e3 => ?_)⟩
        · exact ⟨_, rfl, _, _, rfl, rfl, Q_bl q (by show (decide _ && decide _) = _; rw [e3]; rfl)⟩
        · exact Q_bl q (by show (decide _ && decide _) = _; rw [e3]; rfl)
      · refine Q_bl q ?_
        cases k <;> first | rfl | (exfalso; revert e e2; decide)
    · refine Q_bl q ?_
      cases k <;> first | rfl | (exfalso; revert e; decide)

theorem ok_is_number (T : Txt K mg) : FnOk P w K mg base CX0 2 T.f_is_number T.d_is_number ["thing"] (sp_is_number K) := by
  refine T.F_is_number.ok sc_is_number (fun vs H Q E h => ?_) (fun cdv A outer s H vs Q E hr h => ?_)
  · obtain ⟨v, t, rfl, _⟩ := h
    rfl
  · obtain ⟨v, t, rfl, k, q⟩ := h
    refine ⟨_, (pss_one (ps_ret (pe_call (ok_is_between T) (hr.mono (by decide)) rfl T.g_is_between T.F_is_between.kp T.b_is_between .nil pass0 (pa_cons (pv 0) (pa_cons pe_int (pa_cons (pe_glob (v := .int 9999) rfl T.g_NUMBER_MOST ⟨_, rfl⟩) pa_nil)))))), ?_⟩
    exact ⟨_, rfl, v, t, 0, 9999, rfl, k, q⟩
theorem ok_is_text (T : Txt K mg) : FnOk P w K mg base CX0 1 T.f_is_text T.d_is_text ["thing", "least", "most"] (sp_is_text K) := by
  refine T.F_is_text.ok sc_is_text (fun vs H Q E h => ?_) (fun cdv A outer s H vs Q E hr h => ?_)
  · obtain ⟨v, t, a, b, rfl, _⟩ := h
    rfl
  · obtain ⟨v, t, a, b, rfl, k, hz, q⟩ := h
    refine ⟨_, (pss_cons (ps_if (PW.pt (pw_or (pt_not (pt_val (pe_callB call_isi rfl T.z_isinstance boot_isinstance (pa_cons (pv 0) (pa_cons (pe_bltn (v := .ty "str") rfl T.z_str boot_str rfl) pa_nil))))) (pw_or1 (pt_not (pt_chain op_le op_le (pv 1) (pe_callB call_len rfl T.z_len boot_len (pa_cons (pv 0) pa_nil)) (pv 2)))))) (pss_one (ps_ret pe_bl)) pss_nil)
      (pss_one (ps_ret (pe_callB (cr_all rfl) rfl T.z_all boot_all (pa_cons (pe_lc (own := [("character", 3)]) (g := (gName 3)) (tt := tYes)  rfl sc_is_text.nd (pi_str (pv 0)) (blkOk_by (own := [("character", 3)]) (N := ["thing", "least", "most", "character"]) (sc := defScope s_is_text) (by decide +kernel)) (fun _ _ _ _ _ => (pg_name (i := 3) sc_is_text.nd rfl (Or.inl rfl))) (fun _ _ _ _ _ => pts_nil) (fun _ _ _ _ _ => (pe_cmpR (op_in_kdI T.CHARACTERS_d) (pe_callB call_ord rfl T.z_ord boot_ord (pa_cons (pv 3) pa_nil)) (pe_glob (v := .ref T.a_CHARACTERS) rfl T.g_CHARACTERS rfl) rfl))) pa_nil))))), ?_⟩
    refine ⟨_, rfl, _, _, _, _, _, rfl, .ty _, k.ty, k.kit, _, rfl, ?_⟩
    refine ifb (fun e => ?_) (fun e => ?_)
    · refine iteT ?_
      refine Q_bl (q H (Same.refl _)) ?_
      cases k <;> first | rfl | (exfalso; revert e; decide)
    · cases k <;> first | (exfalso; revert e; decide) | skip
      rename_i x
      have hx := hz x rfl
      refine ⟨_, rfl, _, rfl, _, _, rfl, ⟨len100 hx, rfl⟩, _, _, rfl, rfl, _, rfl, ifb (fun e2 => ?_) (fun e2 => ?_)⟩
      · refine ⟨_, rfl, _, _, rfl, rfl, _, rfl, ?_⟩
        refine ifb (fun e3 => ?_) (fun e3 => ?_)
        · refine Q_bl (q H (Same.refl _)) ?_
          show (_ && _ && _) = false
          have e3' : decide ((x.length : Int) ≤ b) = false := by simpa using e3
          rw [e3', Bool.and_false, Bool.false_and]
        · have e3' : decide ((x.length : Int) ≤ b) = true := by simpa using e3
          refine ⟨_, rfl, _, rfl, fun D hD => ?_⟩
          refine lc_map walk_str (fun i => V.bl (isChar (x.cps.toList.getD i 0))) (by show x.length ≤ 1000000; omega) hD (fun _ _ => True.intro) ?_ ?_
          · rintro i y H' H'' Q' Z hi s1 ⟨rfl, c, hc, rfl⟩ q'
            refine ⟨rfl, yesI ?_⟩
            refine ⟨_, rfl, _, rfl, rfl, _, rfl, rfl, ?_⟩
            have e4 : x.cps.toList.getD i 0 = c := getD_of 0 (cps_at hc)
            have e5 : (⟨#[c]⟩ : Str).cps.getD 0 0 = c := rfl
            have := q' H'' (Same.refl _)
            rw [e4] at this
            rw [e5, valI_chars]
            cases hcc : isChar c
            · rw [hcc] at this; exact this
            · rw [hcc] at this; exact this
          · intro H' s1 hD'
            refine ⟨_, x.cps.toList.map isChar, rfl, .inl (.inl ?_), ?_⟩
            · rw [hD']
              have : (List.range x.cps.size).map (fun i => V.bl (isChar (x.cps.toList.getD i 0))) = (x.cps.toList.map isChar).map V.bl := by
                rw [List.map_map]
                exact range_map x.cps.toList (fun c => V.bl (isChar c)) 0
              rw [this]
            · refine Q_bl (q H' s1) ?_
              show (_ && _ && _) = _
              rw [e2, e3']
              simp [List.all_map]
      · refine ⟨_, rfl, ?_⟩
        refine iteT ?_
        refine Q_bl (q H (Same.refl _)) ?_
        show (_ && _ && _) = false
        rw [e2, Bool.false_and, Bool.false_and]
theorem ok_is_value (T : Txt K mg) : FnOk P w K mg base CX0 2 T.f_is_value T.d_is_value ["thing"] (sp_is_value K) := by
  refine T.F_is_value.ok sc_is_value (fun vs H Q E h => ?_) (fun cdv A outer s H vs Q E hr h => ?_)
  · obtain ⟨v, t, rfl, _⟩ := h
    rfl
  · obtain ⟨v, t, rfl, k, hz, q⟩ := h
    refine ⟨_, (pss_one (ps_ret (pe_call (ok_is_text T) (hr.mono (by decide)) rfl T.g_is_text T.F_is_text.kp T.b_is_text .nil pass0 (pa_cons (pv 0) (pa_cons pe_int (pa_cons (pe_glob (v := .int 40) rfl T.g_VALUE_MOST ⟨_, rfl⟩) pa_nil)))))), ?_⟩
    exact ⟨_, rfl, v, t, 0, 40, rfl, k, hz, q⟩
theorem ok_prefix_bits (T : Txt K mg) : FnOk P w K mg base CX0 1 T.f_prefix_bits T.d_prefix_bits ["prefix"] sp_prefix_bits := by
  refine T.F_prefix_bits.ok sc_prefix_bits (fun vs H Q E h => ?_) (fun cdv A outer s H vs Q E hr h => ?_)
  · obtain ⟨b, rfl, _⟩ := h
    rfl
  · obtain ⟨b, rfl, hb, q⟩ := h
    refine ⟨_, (pss_one (ps_ret (pe_op op_sub (pe_op op_shl pe_int (pv 0)) pe_int))), ?_⟩
    refine ⟨_, rfl, _, _, rfl, rfl, ⟨by omega, by omega, by decide⟩, _, _, rfl, rfl, ?_⟩
    refine Q_int q ?_
    rw [Int.toNat_natCast, Int.one_mul]

theorem ok_check_prefix (T : Txt K mg) : FnOk P w K mg base CX0 2 T.f_check_prefix T.d_check_prefix ["prefix", "mark"] sp_check_prefix := by
  refine T.F_check_prefix.ok sc_check_prefix (fun vs H Q E h => ?_) (fun cdv A outer s H vs Q E hr h => ?_)
  · obtain ⟨b, m, rfl, _⟩ := h
    rfl
  · obtain ⟨b, m, rfl, ⟨hb1, hb8, hm, hz⟩, q⟩ := h
    refine ⟨_, (pss_cons (ps_if (pt_not (pt_val (pe_call (ok_is_between T) (hr.mono (by decide)) rfl T.g_is_between T.F_is_between.kp T.b_is_between .nil pass0 (pa_cons (pv 0) (pa_cons pe_int (pa_cons pe_int pa_nil)))))) (pss_one ps_never) pss_nil)
      (pss_one (ps_if (PW.pt (pw_or (pt_not (pt_val (pe_call (ok_is_between T) (hr.mono (by decide)) rfl T.g_is_between T.F_is_between.kp T.b_is_between .nil pass0 (pa_cons (pv 1) (pa_cons pe_int (pa_cons pe_int pa_nil)))))) (pw_or1 (pt_cmpR op_ne (pe_op op_and (pv 1) (pe_call (ok_prefix_bits T) (hr.mono (by decide)) rfl T.g_prefix_bits T.F_prefix_bits.kp T.b_prefix_bits .nil pass0 (pa_cons (pv 0) pa_nil))) pe_int (nomark _))))) (pss_one ps_never) pss_nil))), ?_⟩
    refine ⟨_, rfl, .int b, "int", 1, 8, rfl, .int _, _, rfl, ?_⟩
    have e1 : btw (.int (b : Nat)) 1 8 = true := btw_t (by omega) (by omega)
    refine ifF (by rw [e1]; rfl) ?_
    have e2 : btw (.int (m : Nat)) 0 255 = true := btw_t (by omega) (by omega)
    refine ⟨_, rfl, .int m, "int", 0, 255, rfl, .int _, _, rfl, ?_⟩
    refine ifF (by rw [e2]; rfl) ?_
    refine ⟨_, rfl, _, rfl, b, rfl, by omega, _, _, rfl, rfl, rfl, _, rfl, ?_⟩
    refine ifF ?_ q
    rw [bits_cast]
    show (!decide (V.int (Builtin.bitAnd (m : Int) ((2 ^ b - 1 : Nat) : Int)) = V.int 0)) = false
    rw [hz]
    rfl
theorem ok_number_octets (T : Txt K mg) : FnOk P w K mg base CX0 3 T.f_number_octets T.d_number_octets ["number", "prefix", "mark"] sp_number_octets := by
  refine T.F_number_octets.ok sc_number_octets (fun vs H Q E h => ?_) (fun cdv A outer s H vs Q E hr h => ?_)
  · obtain ⟨n, b, m, rfl, _⟩ := h
    rfl
  · obtain ⟨n, b, m, rfl, hn, M, q⟩ := h
    obtain ⟨hb1, hb8, hm, hz⟩ := id M
    refine ⟨_, (pss_cons (ps_if (pt_not (pt_val (pe_call (ok_is_number T) (hr.mono (by decide)) rfl T.g_is_number T.F_is_number.kp T.b_is_number .nil pass0 (pa_cons (pv 0) pa_nil)))) (pss_one ps_never) pss_nil)
      (pss_cons (ps_expr (pe_call (ok_check_prefix T) (hr.mono (by decide)) rfl T.g_check_prefix T.F_check_prefix.kp T.b_check_prefix .nil pass0 (pa_cons (pv 1) (pa_cons (pv 2) pa_nil))))
      (pss_cons (ps_set (i := 3) sc_number_octets.nd rfl (Or.inl rfl) (pe_call (ok_prefix_bits T) (hr.mono (by decide)) rfl T.g_prefix_bits T.F_prefix_bits.kp T.b_prefix_bits .nil pass0 (pa_cons (pv 1) pa_nil)))
      (pss_cons (ps_if (pt_cmpR op_lt (pv 0) (pv 3) (nomark _)) (pss_one (ps_ret (pe_lst (pa_cons (pe_op op_add (pv 2) (pv 0)) pa_nil)))) pss_nil)
      (pss_cons (ps_set (i := 4) sc_number_octets.nd rfl (Or.inl rfl) (pe_lst (pa_cons (pe_op op_add (pv 2) (pv 3)) pa_nil)))
      (pss_cons (ps_set (i := 5) sc_number_octets.nd rfl (Or.inl rfl) (pe_op op_sub (pv 0) (pv 3)))
      (pss_cons (ps_while PassesOwn.never (pt_cmpR op_ge (pv 5) pe_int (nomark _))
        (pss_cons (ps_expr (pe_bm PySem.F.plainAttrs_list PySem.F.slot_list_append PySem.F.type_list_append mt_append (pv 4) (pa_cons (pe_op op_add pe_int (pe_op op_and (pv 5) pe_int)) pa_nil)))
      (pss_one (ps_set (i := 5) sc_number_octets.nd rfl (Or.inl rfl) (pe_op op_shr (pv 5) pe_int)))))
      (pss_cons (ps_expr (pe_bm PySem.F.plainAttrs_list PySem.F.slot_list_append PySem.F.type_list_append mt_append (pv 4) (pa_cons (pv 5) pa_nil)))
      (pss_one (ps_ret (pv 4))))))))))), ?_⟩
    have e1 : btw (.int (n : Nat)) 0 9999 = true := btw_t (by omega) (by omega)
    refine ⟨_, rfl, .int n, "int", rfl, .int _, _, rfl, ?_⟩
    refine ifF (by rw [e1]; rfl) ?_
    refine ⟨_, rfl, _, rfl, b, m, rfl, M, ?_⟩
    refine ⟨_, rfl, b, rfl, by omega, ?_⟩
    refine ⟨_, rfl, _, rfl, _, _, rfl, rfl, _, rfl, ?_⟩
    have hp := pow_pos2 b
    have hp8 := pow_le8 hb8
    have eb := bits_cast b
    by_cases c : n < 2 ^ b - 1
    · refine ifT (decide_eq_true (by rw [eb]; omega)) ?_
      refine ⟨_, rfl, _, rfl, _, _, rfl, rfl, (by show 1 ≤ sizeLine; rw [sizeLine_eq]; omega), fun p hp' => ?_⟩
      refine q p _ hp' (Same.new hp') ?_
      rw [upd_same]
      unfold numOct
      rw [if_pos c]
      rfl
    · refine ifF (decide_eq_false (by rw [eb]; omega)) ?_
      refine ⟨_, rfl, _, rfl, _, _, rfl, rfl, (by show 1 ≤ sizeLine; rw [sizeLine_eq]; omega), fun p hp' => ?_⟩
      refine ⟨_, rfl, _, rfl, _, _, rfl, rfl, ?_⟩
      have eN : numOct n b m = [((m + (2 ^ b - 1) : Nat) : Int)] ++ restOct (n - (2 ^ b - 1)) := by
        unfold numOct
        rw [if_neg c]
        rfl
      have hl := numOct_len n b m
      refine ⟨fun k σ H' => ∃ acc : List Int, σ = [some (.int (n : Nat)), some (.int (b : Nat)), some (.int (m : Nat)), some (.int (2 ^ b - 1)), some (.ref p), some (.int (k : Nat))] ∧ Same H H' ∧ H' p = some (.lst (acc.map V.int)) ∧ acc ++ restOct k = numOct n b m,
        ⟨n - (2 ^ b - 1), [((m + (2 ^ b - 1) : Nat) : Int)], ?_, Same.new hp', ?_, eN.symm⟩, ?_⟩
      · have e : ((n : Int) - (2 ^ b - 1)) = ((n - (2 ^ b - 1) : Nat) : Int) := by rw [eb]; omega
        rw [← e]
        rfl
      · rw [upd_same, eb]
        rfl
      · rintro k σ H' ⟨acc, rfl, s1, hl', ha⟩
        refine ⟨_, rfl, _, _, rfl, rfl, _, rfl, ?_⟩
        by_cases ck : k < 128
        · refine ifF (decide_eq_false (by omega)) ?_
          refine ⟨_, rfl, .inl ⟨rfl, _, SqL.of hl'⟩, _, rfl, p, _, _, rfl, rfl, hl', ?_, ?_⟩
          · rw [List.length_map, sizeLine_eq]
            have : acc.length ≤ (numOct n b m).length := by rw [← ha]; simp
            omega
          · refine ⟨_, rfl, ?_⟩
            refine q p _ hp' (s1.put hp') ?_
            rw [upd_same, ← ha, restOct_lt ck, List.map_append]
            rfl
        · refine ifT (decide_eq_true (by omega)) ?_
          refine ⟨fun σ' H'' => ∃ acc : List Int, σ' = [some (.int (n : Nat)), some (.int (b : Nat)), some (.int (m : Nat)), some (.int (2 ^ b - 1)), some (.ref p), some (.int ((k / 128 : Nat) : Int))] ∧ Same H H'' ∧ H'' p = some (.lst (acc.map V.int)) ∧ acc ++ restOct (k / 128) = numOct n b m,
            fun σ' H'' h => ⟨k / 128, by omega, h⟩, ?_⟩
          refine ⟨_, rfl, .inl ⟨rfl, _, SqL.of hl'⟩, _, rfl, _, _, rfl, rfl, _, _, rfl, rfl, p, _, _, rfl, rfl, hl', ?_, ?_⟩
          · rw [List.length_map, sizeLine_eq]
            have : acc.length ≤ (numOct n b m).length := by rw [← ha]; simp
            omega
          · refine ⟨_, rfl, _, _, rfl, rfl, (by show (0 : Int) ≤ 7; decide), ?_⟩
            refine ⟨acc ++ [128 + (k : Int) % 128], ?_, s1.put hp', ?_, ?_⟩
            · have e : ((k : Int) / 2 ^ (7 : Int).toNat) = ((k / 128 : Nat) : Int) := by
                show (k : Int) / 128 = _
                omega
              rw [← e]
              rfl
            · rw [upd_same, and127 (by omega), List.map_append]
              rfl
            · rw [← ha, restOct_ge ck, List.append_assoc]
              rfl

theorem ok_string_octets (T : Txt K mg) : FnOk P w K mg base CX0 4 T.f_string_octets T.d_string_octets ["text", "prefix", "mark"] sp_string_octets := by
  refine T.F_string_octets.ok sc_string_octets (fun vs H Q E h => ?_) (fun cdv A outer s H vs Q E hr h => ?_)
  · obtain ⟨x, b, m, rfl, _⟩ := h
    rfl
  · obtain ⟨x, b, m, rfl, ht, M, q⟩ := h
    refine ⟨_, (pss_cons (ps_if (pt_not (pt_val (pe_call (ok_is_value T) (hr.mono (by decide)) rfl T.g_is_value T.F_is_value.kp T.b_is_value .nil pass0 (pa_cons (pv 0) pa_nil)))) (pss_one ps_never) pss_nil)
      (pss_one (ps_ret (pe_op op_cat (pe_call (ok_number_octets T) (hr.mono (by decide)) rfl T.g_number_octets T.F_number_octets.kp T.b_number_octets .nil pass0 (pa_cons (pe_callB call_len rfl T.z_len boot_len (pa_cons (pv 0) pa_nil)) (pa_cons (pv 1) (pa_cons (pv 2) pa_nil)))) (pe_lc (own := [("character", 3)]) (g := (gName 3)) (tt := tYes)  rfl sc_string_octets.nd (pi_str (pv 0)) (blkOk_by (own := [("character", 3)]) (N := ["text", "prefix", "mark", "character"]) (sc := defScope s_string_octets) (by decide +kernel)) (fun _ _ _ _ _ => (pg_name (i := 3) sc_string_octets.nd rfl (Or.inl rfl))) (fun _ _ _ _ _ => pts_nil) (fun _ _ _ _ _ => (pe_callB call_ord rfl T.z_ord boot_ord (pa_cons (pv 3) pa_nil)))))))), ?_⟩
    have hl := txt_len ht
    refine ⟨_, rfl, .str x, "str", rfl, .str _, fun y e => ?_, fun H1 s1 => ?_⟩
    · cases e; omega
    refine ⟨_, rfl, ?_⟩
    refine ifF (by rw [ht]; rfl) ?_
    refine ⟨_, rfl, _, _, rfl, ⟨len100 (by omega), rfl⟩, ?_⟩
    refine ⟨_, rfl, _, rfl, x.length, b, m, rfl, by omega, M, fun p H2 hp s2 hp2 => ?_⟩
    have hz := numOct_len x.length b m
    refine ⟨_, rfl, _, rfl, fun D hD => ?_⟩
    refine lc_map walk_str (fun i => V.int ((x.cps.toList.getD i 0 : Nat) : Int)) (by show x.length ≤ 1000000; omega) hD (fun _ _ => True.intro) ?_ ?_
    · rintro i y H' H'' Q' Z hi s3 ⟨rfl, c, hc, rfl⟩ q'
      refine ⟨rfl, yesI ?_⟩
      refine ⟨_, rfl, _, rfl, rfl, ?_⟩
      have e4 : x.cps.toList.getD i 0 = c := getD_of 0 (cps_at hc)
      have := q' H'' (Same.refl _)
      rw [e4] at this
      exact this
    · intro H' s3 hD'
      have e5 : (List.range x.cps.size).map (fun i => V.int ((x.cps.toList.getD i 0 : Nat) : Int)) = (x.cps.toList.map fun (c : Nat) => (c : Int)).map V.int := by
        rw [List.map_map]
        exact range_map x.cps.toList (fun (c : Nat) => V.int (c : Int)) 0
      rw [e5] at hD'
      refine ⟨_, _, _, _, rfl, rfl, s3 _ _ hp2, hD', ?_, fun r hr' => ?_⟩
      · rw [List.length_map, List.length_map, List.length_map, ← str_len, sizeLine_eq]
        omega
      · refine q r _ ((s1.trans s2).trans s3 |>.free hr') ((s1.trans s2).trans s3 |>.put ((s1.trans s2).trans s3 |>.free hr')) ?_
        rw [upd_same, List.map_append]
theorem ok_law_number_octets (T : Txt K mg) : FnOk P w K mg base CX0 1 T.f_law_number_octets T.d_law_number_octets ["number", "prefix", "mark"] sp_law_number_octets := by
  refine T.F_law_number_octets.ok sc_law_number_octets (fun vs H Q E h => ?_) (fun cdv A outer s H vs Q E hr h => ?_)
  · obtain ⟨n, b, m, rfl, _⟩ := h
    rfl
  · obtain ⟨n, b, m, rfl, hn, hb8, q⟩ := h
    refine ⟨_, (pss_cons (ps_set (i := 3) sc_law_number_octets.nd rfl (Or.inl rfl) pe_int)
      (pss_cons (ps_for PassesOwn.never rfl (pi_range1 rfl T.z_range (pa_cons (pv 1) pa_nil)) (pg_name (i := 4) sc_law_number_octets.nd rfl (Or.inl rfl))
        (pss_one (ps_set (i := 3) sc_law_number_octets.nd rfl (Or.inl rfl) (pe_op op_mul (pv 3) pe_int))))
      (pss_cons (ps_if (pt_cmpR op_lt (pv 0) (pe_op op_sub (pv 3) pe_int) (nomark _)) (pss_one (ps_ret (pe_lst (pa_cons (pe_op op_add (pv 2) (pv 0)) pa_nil)))) pss_nil)
      (pss_cons (ps_par (i := 5) (j := 6) rfl sc_law_number_octets.nd rfl rfl (by decide) rfl rfl (pa_cons (pe_lst (pa_cons (pe_op op_sub (pe_op op_add (pv 2) (pv 3)) pe_int) pa_nil)) (pa_cons (pe_op op_add (pe_op op_sub (pv 0) (pv 3)) pe_int) pa_nil)) (by rfl))
      (pss_cons (ps_while PassesOwn.never (pt_cmpR op_ge (pv 6) pe_int (nomark _))
        (pss_cons (ps_expr (pe_bm PySem.F.plainAttrs_list PySem.F.slot_list_append PySem.F.type_list_append mt_append (pv 5) (pa_cons (pe_op op_add pe_int (pe_op op_mod (pv 6) pe_int)) pa_nil)))
      (pss_one (ps_set (i := 6) sc_law_number_octets.nd rfl (Or.inl rfl) (pe_op op_fdiv (pv 6) pe_int)))))
      (pss_one (ps_ret (pe_op op_cat (pv 5) (pe_lst (pa_cons (pv 6) pa_nil)))))))))), ?_⟩
    have hp := pow_pos2 b
    have hp8 := pow_le8 hb8
    have eb := bits_cast b
    refine ⟨_, rfl, _, rfl, by omega, by omega, ?_⟩
    refine for_range (lo := 0) (n := ((b : Nat) : Int).toNat) (fun i σ H' => ∃ z : Option V, σ = [some (.int (n : Nat)), some (.int (b : Nat)), some (.int (m : Nat)), some (.int (2 ^ i)), z, none, none] ∧ H = H') ⟨none, rfl, rfl⟩ ?_ ?_
    · rintro i σ H' hi ⟨z, rfl, rfl⟩
      refine ⟨_, rfl, _, _, rfl, rfl, .inr ⟨by decide, by decide⟩, ?_⟩
      exact ⟨_, by rw [Int.pow_succ]; rfl, rfl⟩
    · rintro σ H' ⟨z, rfl, rfl⟩
      rw [Int.toNat_natCast]
      refine ⟨_, rfl, _, rfl, _, _, rfl, rfl, _, _, rfl, rfl, _, rfl, ?_⟩
      by_cases c : n < 2 ^ b - 1
      · refine ifT (decide_eq_true (by rw [eb]; omega)) ?_
        refine ⟨_, rfl, _, rfl, _, _, rfl, rfl, (by show 1 ≤ sizeLine; rw [sizeLine_eq]; omega), fun p hp' => ?_⟩
        refine q p _ hp' (Same.new hp') ?_
        rw [upd_same]
        unfold numOct
        rw [if_pos c]
        rfl
      · refine ifF (decide_eq_false (by rw [eb]; omega)) ?_
        refine ⟨_, rfl, _, rfl, _, _, rfl, rfl, _, _, rfl, rfl, (by show 1 ≤ sizeLine; rw [sizeLine_eq]; omega), fun p hp' => ?_⟩
        refine ⟨_, rfl, _, rfl, _, _, rfl, rfl, _, _, rfl, rfl, _, _, rfl, ?_⟩
        have eN : numOct n b m = [((m + (2 ^ b - 1) : Nat) : Int)] ++ restOct (n - (2 ^ b - 1)) := by
          unfold numOct
          rw [if_neg c]
          rfl
        have hl := numOct_len n b m
        refine ⟨fun k σ H' => ∃ acc : List Int, σ = [some (.int (n : Nat)), some (.int (b : Nat)), some (.int (m : Nat)), some (.int (2 ^ b)), z, some (.ref p), some (.int (k : Nat))] ∧ Same H H' ∧ H' p = some (.lst (acc.map V.int)) ∧ acc ++ restOct k = numOct n b m,
          ⟨n - (2 ^ b - 1), [((m + (2 ^ b - 1) : Nat) : Int)], ?_, Same.new hp', ?_, eN.symm⟩, ?_⟩
        · have e : ((n : Int) - 2 ^ b + 1) = ((n - (2 ^ b - 1) : Nat) : Int) := by omega
          rw [← e]
          rfl
        · have e : ((m : Int) + 2 ^ b - 1) = ((m + (2 ^ b - 1) : Nat) : Int) := by omega
          rw [upd_same, ← e]
          rfl
        · rintro k σ H' ⟨acc, rfl, s1, hl', ha⟩
          refine ⟨_, rfl, _, _, rfl, rfl, _, rfl, ?_⟩
          by_cases ck : k < 128
          · refine ifF (decide_eq_false (by omega)) ?_
            refine ⟨_, rfl, _, rfl, (by show 1 ≤ sizeLine; rw [sizeLine_eq]; omega), fun r hr' => ?_⟩
            have npr : p ≠ r := ne_of_none hl' hr'
            refine ⟨p, r, _, _, rfl, rfl, by rw [upd_ne npr]; exact hl', upd_same, ?_, fun t ht => ?_⟩
            · rw [List.length_map, sizeLine_eq]
              have : acc.length ≤ (numOct n b m).length := by rw [← ha]; simp
              simp only [List.length_cons, List.length_nil]
              omega
            · have s2 : Same H (upd H' r (.lst [.int (k : Nat)])) := s1.put (s1.free hr')
              refine q t _ (s2.free ht) (s2.put (s2.free ht)) ?_
              rw [upd_same, ← ha, restOct_lt ck, List.map_append]
              rfl
          · refine ifT (decide_eq_true (by omega)) ?_
            refine ⟨fun σ' H'' => ∃ acc : List Int, σ' = [some (.int (n : Nat)), some (.int (b : Nat)), some (.int (m : Nat)), some (.int (2 ^ b)), z, some (.ref p), some (.int ((k / 128 : Nat) : Int))] ∧ Same H H'' ∧ H'' p = some (.lst (acc.map V.int)) ∧ acc ++ restOct (k / 128) = numOct n b m,
              fun σ' H'' h => ⟨k / 128, by omega, h⟩, ?_⟩
            refine ⟨_, rfl, .inl ⟨rfl, _, SqL.of hl'⟩, _, rfl, _, _, rfl, rfl, (by show (0 : Int) < 128; decide), _, _, rfl, rfl, p, _, _, rfl, rfl, hl', ?_, ?_⟩
            · rw [List.length_map, sizeLine_eq]
              have : acc.length ≤ (numOct n b m).length := by rw [← ha]; simp
              omega
            · refine ⟨_, rfl, _, _, rfl, rfl, ⟨by decide, by decide⟩, ?_⟩
              refine ⟨acc ++ [128 + (k : Int) % 128], ?_, s1.put hp', ?_, ?_⟩
              · have e : ((k : Int) / 128) = ((k / 128 : Nat) : Int) := by omega
                rw [← e]
                rfl
              · rw [upd_same, List.map_append]
                rfl
              · rw [← ha, restOct_ge ck, List.append_assoc]
                rfl

/-- one row of _law_code's table walked -/
def t_code_in (K : PySem.W.Frag) : TS := tFor (iEnumS (tCons (tVar 2) tNil)) (gTup K 2 (gCons (gName 3) (gCons (gName 4) gNil))) (tIfS (tTest (tOp rEq (tVar 4) (tVar 0))) (tRet (tOp (rI0 fun i j => .int (i + j)) (tVar 1) (tVar 3))) tNext)
theorem code_in {c : Nat} {first : Nat} {row : Str} {k one : Option V} {D : Ends} {H : Hp} (hrow : ∀ i r, row.cps[i]? = some r → r = first + i)
    (hyes : ∀ H', Same H H' → c ∈ row.cps.toList → D.rt (.int (c : Nat)) H') (hno : ∀ k one H', Same H H' → c ∉ row.cps.toList → D.nx [some (.str ⟨#[c]⟩), some (.int (first : Nat)), some (.str row), k, one] H') :
    t_code_in K D [some (.str ⟨#[c]⟩), some (.int (first : Nat)), some (.str row), k, one] H := by
  refine ⟨_, rfl, row, rfl, ?_⟩
  refine for_it walk_enumS (fun i σ H' => ∃ k one : Option V, σ = [some (.str ⟨#[c]⟩), some (.int (first : Nat)), some (.str row), k, one] ∧ Same H H' ∧ c ∉ row.cps.toList.take i) ⟨k, one, rfl, Same.refl _, by simp⟩ (fun _ _ _ _ _ => True.intro) ?_ ?_
  · rintro i x σ H' H'' hi ⟨k', one', rfl, s1, hc⟩ ⟨tt, r, rfl, htt, rfl, hr⟩
    refine ⟨tt, _, rfl, SqT.of upd_same, rfl, _, _, rfl, _, _, rfl, rfl, ?_⟩
    refine ⟨_, rfl, _, rfl, rfl, _, rfl, ?_⟩
    have s2 := s1.put (o := .tup [.int (i : Nat), .str ⟨#[r]⟩]) (s1.free htt)
    have hr' : row.cps.toList[i]? = some r := cps_at hr
    by_cases e : r = c
    · subst e
      refine ifT (decide_eq_true rfl) ?_
      refine ⟨_, rfl, _, rfl, _, _, rfl, rfl, ?_⟩
      have e1 : ((first : Nat) : Int) + (i : Nat) = ((r : Nat) : Int) := by
        have := hrow i r hr
        omega
      show D.rt (.int (((first : Nat) : Int) + (i : Nat))) _
      rw [e1]
      exact hyes _ s2 (List.mem_of_getElem? hr')
    · refine ifF (decide_eq_false fun q => e ?_) ⟨_, _, rfl, s2, ?_⟩
      · have : (⟨#[r]⟩ : Str) = ⟨#[c]⟩ := by injection q
        have h2 : #[r] = #[c] := congrArg Str.cps this
        simpa using h2
      · have e2 : row.cps.toList.take (i + 1) = row.cps.toList.take i ++ [r] := by
          rw [List.take_add_one, hr']; rfl
        rw [e2]
        intro hm
        rcases List.mem_append.mp hm with h | h
        · exact hc h
        · exact e (List.mem_singleton.mp h).symm
  · rintro σ H' ⟨k', one', rfl, s1, hc⟩
    refine hno _ _ _ s1 ?_
    rwa [List.take_of_length_le (by simp)] at hc
theorem ok_law_code (T : Txt K mg) : FnOk P w K mg base CX0 1 T.f_law_code T.d_law_code ["sign"] sp_law_code := by
  refine T.F_law_code.ok sc_law_code (fun vs H Q E h => ?_) (fun cdv A outer s H vs Q E hr h => ?_)
  · obtain ⟨c, rfl, _⟩ := h
    rfl
  · obtain ⟨c, rfl, q⟩ := h
    refine ⟨_, (pss_cons (ps_for PassesOwn.never rfl (pi_list (pe_lst (pa_cons (pe_tup (pa_cons pe_int (pa_cons pe_str pa_nil))) (pa_cons (pe_tup (pa_cons pe_int (pa_cons pe_str pa_nil))) (pa_cons (pe_tup (pa_cons pe_int (pa_cons pe_str pa_nil))) (pa_cons (pe_tup (pa_cons pe_int (pa_cons pe_str pa_nil))) pa_nil)))))) (pg_tup rfl (pgs_cons (pg_name (i := 1) sc_law_code.nd rfl (Or.inl rfl)) (pgs_cons (pg_name (i := 2) sc_law_code.nd rfl (Or.inl rfl)) pgs_nil)))
        (pss_one (ps_for PassesOwn.never rfl (pi_enumS rfl T.z_enumerate (pa_cons (pv 2) pa_nil)) (pg_tup rfl (pgs_cons (pg_name (i := 3) sc_law_code.nd rfl (Or.inl rfl)) (pgs_cons (pg_name (i := 4) sc_law_code.nd rfl (Or.inl rfl)) pgs_nil)))
        (pss_one (ps_if (pt_cmpR op_eq (pv 4) (pv 0) (nomark _)) (pss_one (ps_ret (pe_op op_add (pv 1) (pv 3)))) pss_nil)))))
      (pss_one (ps_ret pe_int))), ?_⟩
    refine ⟨by show 2 ≤ sizeLine; decide, fun t1 h1 => ?_⟩
    refine ⟨by show 2 ≤ sizeLine; decide, fun t2 h2 => ?_⟩
    refine ⟨by show 2 ≤ sizeLine; decide, fun t3 h3 => ?_⟩
    refine ⟨by show 2 ≤ sizeLine; decide, fun t4 h4 => ?_⟩
    refine ⟨by show 4 ≤ sizeLine; decide, fun l hl => ?_⟩
    have n12 : t1 ≠ t2 := ne_of_none upd_same h2
    have n13 : t1 ≠ t3 := ne_of_none (by rw [upd_ne n12]; exact upd_same) h3
    have n23 : t2 ≠ t3 := ne_of_none upd_same h3
    have n14 : t1 ≠ t4 := ne_of_none (by rw [upd_ne n13, upd_ne n12]; exact upd_same) h4
    have n24 : t2 ≠ t4 := ne_of_none (by rw [upd_ne n23]; exact upd_same) h4
    have n34 : t3 ≠ t4 := ne_of_none upd_same h4
    have n1l : t1 ≠ l := ne_of_none (by rw [upd_ne n14, upd_ne n13, upd_ne n12]; exact upd_same) hl
    have n2l : t2 ≠ l := ne_of_none (by rw [upd_ne n24, upd_ne n23]; exact upd_same) hl
    have n3l : t3 ≠ l := ne_of_none (by rw [upd_ne n34]; exact upd_same) hl
    have n4l : t4 ≠ l := ne_of_none upd_same hl
    have s0 : Same H _ := (((((Same.new h1).trans (Same.new h2)).trans (Same.new h3)).trans (Same.new h4)).trans (Same.new (o := .lst [.ref t1, .ref t2, .ref t3, .ref t4]) hl))
    generalize hH : upd (upd (upd (upd (upd H t1 (.tup [.int 32, .str " "])) t2 (.tup [.int 45, .str "-./0123456789:;"])) t3 (.tup [.int 61, .str "="])) t4 (.tup [.int 97, .str "abcdefghijklmnopqrstuvwxyz"])) l (.lst [.ref t1, .ref t2, .ref t3, .ref t4]) = H5 at s0 ⊢
    have g1 : H5 t1 = some (.tup [.int 32, .str " "]) := by rw [← hH, upd_ne n1l, upd_ne n14, upd_ne n13, upd_ne n12]; exact upd_same
    have g2 : H5 t2 = some (.tup [.int 45, .str "-./0123456789:;"]) := by rw [← hH, upd_ne n2l, upd_ne n24, upd_ne n23]; exact upd_same
    have g3 : H5 t3 = some (.tup [.int 61, .str "="]) := by rw [← hH, upd_ne n3l, upd_ne n34]; exact upd_same
    have g4 : H5 t4 = some (.tup [.int 97, .str "abcdefghijklmnopqrstuvwxyz"]) := by rw [← hH, upd_ne n4l]; exact upd_same
    have gl : H5 l = some (.lst [.ref t1, .ref t2, .ref t3, .ref t4]) := by rw [← hH]; exact upd_same
    clear hH
    refine ⟨l, rfl, ⟨_, SqL.of gl⟩, ?_⟩
    refine for_list (K := K) (a := l) (xs := [.ref t1, .ref t2, .ref t3, .ref t4]) (fun i σ H' => ∃ a b k one : Option V, σ = [some (.str ⟨#[c]⟩), a, b, k, one] ∧ Same H5 H' ∧ c ∉ (codeRows.take i).flatten) ⟨_, _, _, _, rfl, Same.refl _, by simp⟩ (fun i σ H' _ ⟨_, _, _, _, _, s1, _⟩ => s1.seq (SqL.of gl)) ?_ ?_
    · rintro i x σ H' hi ⟨a, b, k, one, rfl, s1, hc⟩
      have yes : ∀ H'', Same H' H'' → isChar c = true → Q (.int (c : Nat)) H'' := fun H'' s2 e => by
        have := q H'' ((s0.trans s1).trans s2)
        unfold codeOf at this
        rw [e] at this
        exact this
      match i, hi with
      | 0, hi =>
        cases hi
        refine ⟨t1, _, rfl, SqT.of (s1 _ _ g1), rfl, _, _, rfl, _, _, rfl, rfl, ?_⟩
        refine code_in (first := 32) (row_ok (by decide +kernel)) (fun H'' s2 hm => yes H'' s2 ?_) fun k' one' H'' s2 hm => ⟨_, _, _, _, rfl, s1.trans s2, ?_⟩
        · exact code_yes 0 rfl hm
        · exact code_no 0 rfl hc hm
      | 1, hi =>
        cases hi
        refine ⟨t2, _, rfl, SqT.of (s1 _ _ g2), rfl, _, _, rfl, _, _, rfl, rfl, ?_⟩
        refine code_in (first := 45) (row_ok (by decide +kernel)) (fun H'' s2 hm => yes H'' s2 ?_) fun k' one' H'' s2 hm => ⟨_, _, _, _, rfl, s1.trans s2, ?_⟩
        · exact code_yes 1 rfl hm
        · exact code_no 1 rfl hc hm
      | 2, hi =>
        cases hi
        refine ⟨t3, _, rfl, SqT.of (s1 _ _ g3), rfl, _, _, rfl, _, _, rfl, rfl, ?_⟩
        refine code_in (first := 61) (row_ok (by decide +kernel)) (fun H'' s2 hm => yes H'' s2 ?_) fun k' one' H'' s2 hm => ⟨_, _, _, _, rfl, s1.trans s2, ?_⟩
        · exact code_yes 2 rfl hm
        · exact code_no 2 rfl hc hm
      | 3, hi =>
        cases hi
        refine ⟨t4, _, rfl, SqT.of (s1 _ _ g4), rfl, _, _, rfl, _, _, rfl, rfl, ?_⟩
        refine code_in (first := 97) (row_ok (by decide +kernel)) (fun H'' s2 hm => yes H'' s2 ?_) fun k' one' H'' s2 hm => ⟨_, _, _, _, rfl, s1.trans s2, ?_⟩
        · exact code_yes 3 rfl hm
        · exact code_no 3 rfl hc hm
    · rintro σ H' ⟨a, b, k, one, rfl, s1, hc⟩
      have := q H' (s0.trans s1)
      unfold codeOf at this
      rw [code_none hc] at this
      exact this
theorem ok_law_text_octets (T : Txt K mg) : FnOk P w K mg base CX0 2 T.f_law_text_octets T.d_law_text_octets ["text", "prefix", "mark"] sp_law_text_octets := by
  refine T.F_law_text_octets.ok sc_law_text_octets (fun vs H Q E h => ?_) (fun cdv A outer s H vs Q E hr h => ?_)
  · obtain ⟨x, b, m, rfl, _⟩ := h
    rfl
  · obtain ⟨x, b, m, rfl, hl, hb, q⟩ := h
    refine ⟨_, (pss_one (ps_ret (pe_op op_cat (pe_call (ok_law_number_octets T) (hr.mono (by decide)) rfl T.g_law_number_octets T.F_law_number_octets.kp T.b_law_number_octets .nil pass0 (pa_cons (pe_callB call_len rfl T.z_len boot_len (pa_cons (pv 0) pa_nil)) (pa_cons (pv 1) (pa_cons (pv 2) pa_nil)))) (pe_lc (own := [("sign", 3)]) (g := (gName 3)) (tt := tYes)  rfl sc_law_text_octets.nd (pi_str (pv 0)) (blkOk_by (own := [("sign", 3)]) (N := ["text", "prefix", "mark", "sign"]) (sc := defScope s_law_text_octets) (by decide +kernel)) (fun _ _ _ _ _ => (pg_name (i := 3) sc_law_text_octets.nd rfl (Or.inl rfl))) (fun _ _ _ _ _ => pts_nil) (fun _ _ _ _ _ => (pe_call (ok_law_code T) (hr.mono (by decide)) rfl T.g_law_code T.F_law_code.kp T.b_law_code .nil pass0 (pa_cons (pv 3) pa_nil))))))), ?_⟩
    refine ⟨_, rfl, _, _, rfl, ⟨len100 (by omega), rfl⟩, ?_⟩
    refine ⟨_, rfl, _, rfl, x.length, b, m, rfl, by omega, hb, fun p H2 hp s2 hp2 => ?_⟩
    have hz := numOct_len x.length b m
    refine ⟨_, rfl, _, rfl, fun D hD => ?_⟩
    refine lc_map walk_str (fun i => V.int (codeOf (x.cps.toList.getD i 0))) (by show x.length ≤ 1000000; omega) hD (fun _ _ => True.intro) ?_ ?_
    · rintro i y H' H'' Q' Z hi s3 ⟨rfl, c, hc, rfl⟩ q'
      refine ⟨rfl, yesI ?_⟩
      refine ⟨_, rfl, c, rfl, fun H4 s4 => ?_⟩
      have e4 : x.cps.toList.getD i 0 = c := getD_of 0 (cps_at hc)
      have := q' H4 s4
      rw [e4] at this
      exact this
    · intro H' s3 hD'
      have e5 : (List.range x.cps.size).map (fun i => V.int (codeOf (x.cps.toList.getD i 0))) = (x.cps.toList.map codeOf).map V.int := by
        rw [List.map_map]
        exact range_map x.cps.toList (fun (c : Nat) => V.int (codeOf c)) 0
      rw [e5] at hD'
      refine ⟨_, _, _, _, rfl, rfl, s3 _ _ hp2, hD', ?_, fun r hr' => ?_⟩
      · rw [List.length_map, List.length_map, List.length_map, ← str_len, sizeLine_eq]
        omega
      · refine q r _ (s2.trans s3 |>.free hr') (s2.trans s3 |>.put (s2.trans s3 |>.free hr')) ?_
        rw [upd_same, List.map_append]

theorem ok_law_open (T : Txt K mg) : FnOk P w K mg base CX0 1 T.f_law_open T.d_law_open ["script"] (sp_law_open K) := by
  refine T.F_law_open.ok sc_law_open (fun vs H Q E h => ?_) (fun cdv A outer s H vs Q E hr h => ?_)
  · obtain ⟨a, ns, rfl, _⟩ := h
    rfl
  · obtain ⟨a, ns, rfl, hS, hl, q⟩ := h
    refine ⟨_, (pss_cons (ps_set (i := 1) sc_law_open.nd rfl (Or.inl rfl) (pe_callTy call_list_of rfl T.z_list boot_list (pa_cons (pe_slice sl_list (pv 0) po_none (po_some pe_int)) pa_nil)))
      (pss_cons (ps_for PassesOwn.never rfl (pi_enum rfl T.z_enumerate (pa_cons (pe_slice sl_list (pv 0) (po_some pe_int) (po_some pe_int)) pa_nil)) (pg_tup rfl (pgs_cons (pg_name (i := 2) sc_law_open.nd rfl (Or.inl rfl)) (pgs_cons (pg_name (i := 3) sc_law_open.nd rfl (Or.inl rfl)) pgs_nil)))
        (pss_one (ps_asg (pe_op op_add (pe_ix ix_list (pv 1) (pe_op op_mod (pv 2) pe_int) (fun _ _ => rfl)) (pv 3)) (pg_sub (pv 1) (pe_op op_mod (pv 2) pe_int) set_list))))
      (pss_one (ps_ret (pe_lst (pa_cons (pv 1) (pa_cons pe_int (pa_cons pe_int pa_nil)))))))), ?_⟩
    refine ⟨_, rfl, _, rfl, a, _, rfl, hS, fun p1 hp1 => ?_⟩
    refine ⟨p1, _, rfl, .inl (SqL.of upd_same), fun c hc => ?_⟩
    have s1 : Same H (upd (upd H p1 (.lst (cutV (ns.map V.int) none (some 12)))) c (.lst (cutV (ns.map V.int) none (some 12)))) := (Same.new hp1).trans (Same.new hc)
    have hcc : H c = none := (Same.new hp1).free hc
    refine ⟨_, rfl, _, rfl, _, rfl, a, _, rfl, s1.seq hS, fun p2 hp2 => ?_⟩
    have npc : c ≠ p2 := ne_of_none upd_same hp2
    have s2 := s1.trans (Same.new (o := .lst (cutV (ns.map V.int) (some 12) (some 63))) hp2)
    refine ⟨p2, _, rfl, SqL.of upd_same, ?_⟩
    generalize hH2 : upd (upd (upd H p1 (.lst (cutV (ns.map V.int) none (some 12)))) c (.lst (cutV (ns.map V.int) none (some 12)))) p2 (.lst (cutV (ns.map V.int) (some 12) (some 63))) = H2 at s2 ⊢
    have gc : H2 c = some (.lst ((ns.take 12).map V.int)) := by
      rw [← hH2, upd_ne npc, upd_same]
      have := cut_to (ns.map V.int) 12
      rw [List.map_take]
      exact congrArg (fun l => some (HO.lst l)) this
    have g2 : H2 p2 = some (.lst (cutV (ns.map V.int) (some 12) (some 63))) := by rw [← hH2, upd_same]
    have el : (cutV (ns.map V.int) (some 12) (some 63)) = ((ns.drop 12).take 51).map V.int := by
      have := cut_mid (ns.map V.int) 12 63
      rw [List.map_take, List.map_drop]
      exact this
    rw [el] at g2
    clear hH2 el
    refine for_it (walk_enum (K := K) (a := p2) (xs := ((ns.drop 12).take 51).map V.int)) (fun i σ H' => ∃ (cs : List Int) (x y : Option V), σ = [some (.ref a), some (.ref c), x, y] ∧ But c H2 H' ∧ H' c = some (.lst (cs.map V.int)) ∧ cs.length = (ns.take 12).length)
      ⟨ns.take 12, none, none, rfl, But.refl _ _, gc, rfl⟩ (fun i σ H' _ ⟨_, _, _, _, b, _⟩ => b.seq (Ne.symm npc) (SqL.of g2)) ?_ ?_
    · rintro i x σ H' H'' hi ⟨cs, v1, v2, rfl, b, hcs, hlen⟩ ⟨t, z1, z2, rfl, ht, rfl, e1, e2⟩
      cases e1
      have e3 : ∃ z : Int, z2 = .int z := by
        replace e2 : (((ns.drop 12).take 51).map V.int)[i]? = some z2 := e2
        rw [List.getElem?_map] at e2
        cases e4 : ((ns.drop 12).take 51)[i]? with
        | none => rw [e4] at e2; cases e2
        | some z => rw [e4] at e2; exact ⟨z, (Option.some.inj e2).symm⟩
      obtain ⟨z, rfl⟩ := e3
      have h12 : cs.length = 12 := by
        rw [hlen]
        rw [List.length_map, List.length_take, List.length_drop] at hi
        rw [List.length_take]
        omega
      have hm : i % 12 < cs.length := by omega
      have nct : c ≠ t := ne_of_none hcs ht
      have hcs' : upd H' t (.tup [.int (i : Nat), .int z]) c = some (.lst (cs.map V.int)) := by rw [upd_ne nct]; exact hcs
      refine ⟨t, _, rfl, SqT.of upd_same, rfl, _, _, rfl, _, _, rfl, rfl, ?_⟩
      have em : ((i : Nat) : Int) % 12 = ((i % 12 : Nat) : Int) := by omega
      have ea : atI (cs.map V.int) (((i : Nat) : Int) % 12) = some (.int cs[i % 12]) := by
        rw [em]
        exact atI_nat (by rw [List.getElem?_map, List.getElem?_eq_getElem hm]; rfl)
      refine ⟨_, rfl, _, rfl, _, _, rfl, rfl, (by show (0 : Int) < 12; decide), c, _, _, _, rfl, rfl, SqL.of hcs', ea, _, rfl, _, _, rfl, rfl, ?_⟩
      refine ⟨_, rfl, _, rfl, _, _, rfl, rfl, (by show (0 : Int) < 12; decide), c, _, _, i % 12, rfl, rfl, hcs', ?_, ?_⟩
      · show ixN (cs.map V.int).length (((i : Nat) : Int) % 12) = _
        rw [em]
        exact Evl.ixN_nat (by rw [List.length_map]; exact hm)
      · refine ⟨cs.set (i % 12) (cs[i % 12] + z), _, _, rfl, (b.trans (But.new ht)).trans But.set, ?_, by rw [List.length_set]; exact hlen⟩
        rw [upd_same, ← List.map_set]
    · rintro σ H' ⟨cs, v1, v2, rfl, b, hcs, hlen⟩
      refine ⟨_, rfl, (by show 3 ≤ sizeLine; decide), fun p hp => ?_⟩
      have s3 : Same H H' := fun u o e => b u o (ne_of_none e hcc) (s2 u o e)
      refine q p c _ (s3.free hp) (s3.put (s3.free hp)) ⟨0, 0, cs, upd_same, ?_, ne_of_none hcs hp, ?_, Nat.le_refl _⟩
      · rw [upd_ne (ne_of_none hcs hp)]; exact hcs
      · rw [hlen, List.length_take]; omega
theorem ok_law_spread (T : Txt K mg) : FnOk P w K mg base CX0 1 T.f_law_spread T.d_law_spread ["cell", "at"] sp_law_spread := by
  refine T.F_law_spread.ok sc_law_spread (fun vs H Q E h => ?_) (fun cdv A outer s H vs Q E hr h => ?_)
  · obtain ⟨c, a, rfl, _⟩ := h
    rfl
  · obtain ⟨c, a, rfl, ha, q⟩ := h
    refine ⟨_, (pss_cons (ps_if (pt_cmpR op_ge (pv 0) (pe_op op_pow pe_int pe_int) (nomark _)) (pss_one (ps_ret (pv 0))) pss_nil)
      (pss_cons (ps_set (i := 2) sc_law_spread.nd rfl (Or.inl rfl) (pe_lst (pa_cons pe_int (pa_cons pe_int (pa_cons pe_int (pa_cons pe_int (pa_cons pe_int (pa_cons pe_int (pa_cons pe_int (pa_cons pe_int pa_nil))))))))))
      (pss_cons (ps_set (i := 2) sc_law_spread.nd rfl (Or.inl rfl) (pe_op op_cat (pv 2) (pe_lst (pa_cons pe_int (pa_cons pe_int (pa_cons pe_int (pa_cons pe_int (pa_cons pe_int pa_nil))))))))
      (Evl.pss_cut (ps_set (i := 3) sc_law_spread.nd rfl (Or.inl rfl) (pe_op op_mod (pe_op op_pow (pe_op op_add (pe_op op_add (pe_op op_mul (pe_op op_mod (pv 0) pe_int) (pe_op op_add (pe_op op_mul pe_int (pv 1)) pe_int)) (pe_op op_mul (pv 1) pe_int)) pe_int) pe_int) (pe_ix ix_list (pv 2) (pe_op op_mod (pv 1) pe_int) (fun _ _ => rfl))))
      (Evl.pss_cut (ps_set (i := 4) sc_law_spread.nd rfl (Or.inl rfl) (pe_op op_mod (pe_op op_pow (pe_op op_add (pe_op op_add (pe_op op_mul (pv 3) (pe_op op_add (pv 1) pe_int)) (pe_op op_mod (pv 0) pe_int)) pe_int) pe_int) (pe_ix ix_list (pv 2) (pe_op op_mod (pe_op op_add (pv 1) pe_int) pe_int) (fun _ _ => rfl))))
      (Evl.pss_cut (ps_set (i := 5) sc_law_spread.nd rfl (Or.inl rfl) (pe_op op_mod (pe_op op_pow (pe_op op_add (pe_op op_add (pv 4) (pe_op op_mod (pv 3) pe_int)) (pv 1)) pe_int) (pe_ix ix_list (pv 2) (pe_op op_mod (pe_op op_add (pv 1) pe_int) pe_int) (fun _ _ => rfl))))
      (pss_one (ps_ret (pe_op op_add (pe_op op_mul (pe_op op_add (pe_op op_mul (pv 3) pe_int) (pv 4)) pe_int) (pv 5)))))))))), ?_⟩
    refine ⟨_, rfl, _, _, rfl, rfl, ⟨by decide, by decide, by decide⟩, _, _, rfl, rfl, _, rfl, ?_⟩
    refine ifb (fun _ => ?_) (fun _ => ?_)
    · exact ⟨_, rfl, q c H (Same.refl _)⟩
    refine ⟨by show 8 ≤ sizeLine; decide, fun p1 hp1 => ?_⟩
    refine ⟨_, rfl, by show 5 ≤ sizeLine; decide, fun p2 hp2 => ?_⟩
    have n12 : p1 ≠ p2 := ne_of_none upd_same hp2
    refine ⟨p1, p2, _, _, rfl, rfl, by rw [upd_ne n12]; exact upd_same, upd_same, by show 13 ≤ sizeLine; decide, fun p3 hp3 => ?_⟩
    have s3 : Same H _ := ((Same.new hp1).trans (Same.new hp2)).trans (Same.new (o := .lst (primes.map V.int)) hp3)
    have g3 : upd (upd (upd H p1 (.lst [.int 2147483629, .int 2147483587, .int 2147483579, .int 2147483563, .int 2147483549, .int 2147483543, .int 2147483497, .int 2147483489])) p2 (.lst [.int 2147483477, .int 2147483423, .int 2147483399, .int 2147483353, .int 2147483323])) p3 (.lst (primes.map V.int)) p3 = some (.lst (primes.map V.int)) := upd_same
    have hm1 : 0 ≤ c % 1000000007 ∧ c % 1000000007 < 1000000007 := ⟨Int.emod_nonneg _ (by decide), Int.emod_lt_of_pos _ (by decide)⟩
    have hm2 : 0 ≤ c % 65537 ∧ c % 65537 < 65537 := ⟨Int.emod_nonneg _ (by decide), Int.emod_lt_of_pos _ (by decide)⟩
    have ix : ∀ k : Nat, ∃ r : Int, atI (primes.map V.int) (((k : Nat) : Int) % 13) = some (.int r) ∧ 0 < r ∧ r < 2147483648 := fun k => primes_at (Int.emod_nonneg _ (by decide)) (Int.emod_lt_of_pos _ (by decide))
    obtain ⟨r1, i1, r1p, r1b⟩ := ix a
    obtain ⟨r2, i2, r2p, r2b⟩ := ix (a + 5)
    obtain ⟨r3, i3, r3p, r3b⟩ := ix (a + 7)
    rw [Int.natCast_add] at i2 i3
    have e18 : (10 : Int) ^ 18 = 1000000000000000000 := by decide
    have b1 := mul_bd (A := 1000000007) (B := 2069069) hm1.1 (Int.le_of_lt hm1.2) (b := 2 * (a : Int) + 69069) (by omega) (by omega)
    refine ⟨fun σ' H' => ∃ one : Int, σ' = [some (.int c), some (.int (a : Nat)), some (.ref p3), some (.int one), none, none] ∧ (0 ≤ one ∧ one < 2147483648) ∧ H' p3 = some (.lst (primes.map V.int)) ∧ Same H H', ?_, ?_⟩
    · refine ⟨_, rfl, _, _, rfl, rfl, (by show (0 : Int) < 1000000007; decide), _, rfl, _, _, rfl, rfl, .inl ⟨by decide, by decide⟩, _, _, rfl, rfl, _, _, rfl, rfl, mul64 hm1.1 (by omega),
        _, rfl, _, _, rfl, rfl, .inr ⟨by decide, by decide⟩, _, _, rfl, rfl, _, _, rfl, rfl, _, _, rfl, rfl, ⟨by decide, by decide, pow_small (by omega) (by omega)⟩,
        _, rfl, _, rfl, _, _, rfl, rfl, (by show (0 : Int) < 13; decide), p3, _, _, _, rfl, rfl, SqL.of g3, i1, _, _, rfl, rfl, r1p, ?_⟩
      exact ⟨_, rfl, ⟨Int.emod_nonneg _ (by omega), Int.lt_trans (Int.emod_lt_of_pos _ r1p) r1b⟩, g3, s3⟩
    · rintro σ' H' ⟨one, rfl, hone, g3, s3⟩
      have b2 := mul_bd (A := 2147483648) (B := 1000003) hone.1 (Int.le_of_lt hone.2) (b := (a : Int) + 3) (by omega) (by omega)
      refine ⟨fun σ' H' => ∃ two : Int, σ' = [some (.int c), some (.int (a : Nat)), some (.ref p3), some (.int one), some (.int two), none] ∧ (0 ≤ two ∧ two < 2147483648) ∧ H' p3 = some (.lst (primes.map V.int)) ∧ Same H H', ?_, ?_⟩
      · refine ⟨_, rfl, _, rfl, _, _, rfl, rfl, _, _, rfl, rfl, mul64 hone.1 (by omega), _, rfl, _, _, rfl, rfl, (by show (0 : Int) < 65537; decide), _, _, rfl, rfl, _, _, rfl, rfl, _, _, rfl, rfl, ⟨by decide, by decide, pow_small (by omega) (by omega)⟩,
          _, rfl, _, rfl, _, _, rfl, rfl, _, _, rfl, rfl, (by show (0 : Int) < 13; decide), p3, _, _, _, rfl, rfl, SqL.of g3, i2, _, _, rfl, rfl, r2p, ?_⟩
        exact ⟨_, rfl, ⟨Int.emod_nonneg _ (by omega), Int.lt_trans (Int.emod_lt_of_pos _ r2p) r2b⟩, g3, s3⟩
      · rintro σ' H' ⟨two, rfl, htwo, g3, s3⟩
        have hm3 : 0 ≤ one % 1009 ∧ one % 1009 < 1009 := ⟨Int.emod_nonneg _ (by decide), Int.emod_lt_of_pos _ (by decide)⟩
        refine ⟨fun σ' H' => ∃ three : Int, σ' = [some (.int c), some (.int (a : Nat)), some (.ref p3), some (.int one), some (.int two), some (.int three)] ∧ Same H H', ?_, ?_⟩
        · refine ⟨_, rfl, _, rfl, _, _, rfl, rfl, (by show (0 : Int) < 1009; decide), _, _, rfl, rfl, _, rfl, _, _, rfl, rfl, _, _, rfl, rfl, ⟨by decide, by decide, pow_small (by omega) (by omega)⟩,
            _, rfl, _, rfl, _, _, rfl, rfl, _, _, rfl, rfl, (by show (0 : Int) < 13; decide), p3, _, _, _, rfl, rfl, SqL.of g3, i3, _, _, rfl, rfl, r3p, ?_⟩
          exact ⟨_, rfl, s3⟩
        · rintro σ' H' ⟨three, rfl, s3⟩
          refine ⟨_, rfl, _, _, rfl, rfl, .inr ⟨by decide, by decide⟩, _, rfl, _, _, rfl, rfl, _, _, rfl, rfl, .inr ⟨by decide, by decide⟩, _, rfl, _, _, rfl, rfl, ?_⟩
          exact q _ H' s3

theorem ok_law_take (T : Txt K mg) : FnOk P w K mg base CX0 2 T.f_law_take T.d_law_take ["pen", "amount"] sp_law_take := by
  refine T.F_law_take.ok sc_law_take (fun vs H Q E h => ?_) (fun cdv A outer s H vs Q E hr h => ?_)
  · obtain ⟨p, c, n, k, rfl, _⟩ := h
    rfl
  · obtain ⟨p, c, n, k, rfl, ⟨a, acc, ns, gp, gc, ncp, hns, han⟩, hk0, hk, hn, q⟩ := h
    refine ⟨_, (Evl.pss_cut (ps_if (pt_cmpR op_lt (pe_ix ix_list (pv 0) pe_int (fun _ _ => rfl)) (pv 1) (nomark _)) (pss_cons (ps_set (i := 2) sc_law_take.nd rfl (Or.inl rfl) (pe_ix ix_list (pv 0) pe_int (fun _ _ => rfl)))
      (pss_cons (ps_set (i := 3) sc_law_take.nd rfl (Or.inl rfl) pe_int)
      (Evl.pss_cut (ps_if (pt_cmpR op_lt (pv 2) (pe_callB call_len rfl T.z_len boot_len (pa_cons (pe_ix ix_list (pv 0) pe_int (fun _ _ => rfl)) pa_nil)) (nomark _)) (pss_one (ps_set (i := 3) sc_law_take.nd rfl (Or.inl rfl) (pe_ix ix_list (pe_ix ix_list (pv 0) pe_int (fun _ _ => rfl)) (pv 2) (fun _ _ => rfl)))) (pss_one (ps_if (pt_cmpR op_gt (pe_callB call_len rfl T.z_len boot_len (pa_cons (pe_ix ix_list (pv 0) pe_int (fun _ _ => rfl)) pa_nil)) pe_int (nomark _)) (pss_one (ps_set (i := 3) sc_law_take.nd rfl (Or.inl rfl) (pe_op op_mod (pe_ix ix_list (pe_ix ix_list (pv 0) pe_int (fun _ _ => rfl)) (pe_op op_mod (pe_op op_add (pe_op op_mul (pv 2) pe_int) pe_int) (pe_callB call_len rfl T.z_len boot_len (pa_cons (pe_ix ix_list (pv 0) pe_int (fun _ _ => rfl)) pa_nil))) (fun _ _ => rfl)) (pe_op op_add (pe_op op_pow pe_int pe_int) (pv 2))))) pss_nil)))
      (pss_cons (ps_asg (pe_op op_add (pv 2) pe_int) (pg_sub (pv 0) pe_int set_list))
      (pss_one (ps_asg (pe_call (ok_law_spread T) (hr.mono (by decide)) rfl T.g_law_spread T.F_law_spread.kp T.b_law_spread .nil pass0 (pa_cons (pv 3) (pa_cons (pv 2) pa_nil))) (pg_sub (pv 0) pe_int set_list))))))) pss_nil)
      (pss_cons (ps_set (i := 4) sc_law_take.nd rfl (Or.inl rfl) (pe_op op_mod (pe_ix ix_list (pv 0) pe_int (fun _ _ => rfl)) (pv 1)))
      (pss_cons (ps_asg (pe_op op_fdiv (pe_ix ix_list (pv 0) pe_int (fun _ _ => rfl)) (pv 1)) (pg_sub (pv 0) pe_int set_list))
      (pss_one (ps_ret (pv 4)))))), ?_⟩
    refine ⟨fun σ' H' => ∃ (a' : Nat) (acc' : Int) (x y : Option V), σ' = [some (.ref p), some (.int k), x, y, none] ∧ But p H H' ∧ H' p = some (.lst [.ref c, .int (a' : Nat), .int acc']) ∧ H' c = some (.lst (ns.map V.int)) ∧ a' ≤ n + 1, ?_, ?_⟩
    · refine ⟨_, rfl, p, _, _, _, rfl, rfl, SqL.of gp, rfl, _, rfl, _, _, rfl, rfl, _, rfl, ?_⟩
      refine ifb (fun _ => ?_) (fun _ => ?_)
      · refine ⟨_, rfl, p, _, _, _, rfl, rfl, SqL.of gp, rfl, ?_⟩
        refine ⟨fun σ' H' => ∃ z : Int, σ' = [some (.ref p), some (.int k), some (.int (a : Nat)), some (.int z), none] ∧ H = H', ?_, ?_⟩
        · refine ⟨_, rfl, _, rfl, p, _, _, _, rfl, rfl, SqL.of gp, rfl, _, _, rfl, .inl ⟨_, SqL.of gc, rfl⟩, _, _, rfl, rfl, _, rfl, ?_⟩
          rw [List.length_map]
          by_cases c1 : a < ns.length
          · refine ifT (decide_eq_true (by omega)) ?_
            refine ⟨_, rfl, p, _, _, _, rfl, rfl, SqL.of gp, rfl, _, rfl, c, _, _, _, rfl, rfl, SqL.of gc, atI_nat (j := a) (v := .int ns[a]) (by rw [List.getElem?_map, List.getElem?_eq_getElem c1]; rfl), ?_⟩
            exact ⟨_, rfl, rfl⟩
          · refine ifF (decide_eq_false (by omega)) ?_
            refine ⟨_, rfl, p, _, _, _, rfl, rfl, SqL.of gp, rfl, _, _, rfl, .inl ⟨_, SqL.of gc, rfl⟩, _, _, rfl, rfl, _, rfl, ?_⟩
            rw [List.length_map]
            by_cases c2 : 0 < ns.length
            · refine ifT (decide_eq_true (by omega)) ?_
              have hm : (((a : Nat) : Int) * 5 + 3) % ((ns.length : Nat) : Int) = (((a * 5 + 3) % ns.length : Nat) : Int) := by
                rw [Int.natCast_emod]; rfl
              have hlt : (a * 5 + 3) % ns.length < ns.length := Nat.mod_lt _ c2
              obtain ⟨w0, ea⟩ : ∃ w0 : Int, atI (ns.map V.int) ((((a : Nat) : Int) * 5 + 3) % (((ns.map V.int).length : Nat) : Int)) = some (.int w0) := by
                rw [List.length_map, hm]
                exact ⟨ns[(a * 5 + 3) % ns.length], atI_nat (by rw [List.getElem?_map, List.getElem?_eq_getElem hlt]; rfl)⟩
              have pos : (0 : Int) < (((ns.map V.int).length : Nat) : Int) := by rw [List.length_map]; omega
              have e17 : (10 : Int) ^ (17 : Int).toNat = 100000000000000000 := by decide
              refine ⟨_, rfl, p, _, _, _, rfl, rfl, SqL.of gp, rfl, _, rfl, _, _, rfl, rfl, .inr ⟨by decide, by decide⟩, _, _, rfl, rfl, _, rfl, p, _, _, _, rfl, rfl, SqL.of gp, rfl, _, _, rfl, .inl ⟨_, SqL.of gc, rfl⟩, _, _, rfl, rfl, pos,
                c, _, _, _, rfl, rfl, SqL.of gc, ea, _, _, rfl, rfl, ⟨by decide, by decide, by decide⟩, _, rfl, _, _, rfl, rfl, _, _, rfl, rfl, ?_, ?_⟩
              · show (0 : Int) < (10 : Int) ^ (17 : Int).toNat + (a : Int)
                rw [e17]
                omega
              · exact ⟨_, rfl, rfl⟩
            · refine ifF (decide_eq_false (by omega)) ?_
              exact ⟨_, rfl, rfl⟩
        · rintro σ' H' ⟨z, rfl, rfl⟩
          refine ⟨_, rfl, _, _, rfl, rfl, _, rfl, p, _, _, 1, rfl, rfl, gp, rfl, ?_⟩
          refine ⟨_, rfl, _, rfl, z, a, rfl, by omega, fun r H' s1 => ?_⟩
          have g1 : H' p = some (.lst [.ref c, .int ((a + 1 : Nat) : Int), .int acc]) := s1 _ _ upd_same
          have gc1 : H' c = some (.lst (ns.map V.int)) := s1 _ _ (by rw [upd_ne ncp]; exact gc)
          refine ⟨_, rfl, p, _, _, 2, rfl, rfl, g1, rfl, ?_⟩
          exact ⟨a + 1, r, _, _, rfl, (But.set.trans (But.of s1)).trans But.set, upd_same, by rw [upd_ne ncp]; exact gc1, by omega⟩
      · exact ⟨a, acc, none, none, rfl, But.refl _ _, gp, gc, by omega⟩
    · rintro σ' H' ⟨a', acc', x, y, rfl, b, gp', gc', ha'⟩
      refine ⟨_, rfl, p, _, _, _, rfl, rfl, SqL.of gp', rfl, _, rfl, _, _, rfl, rfl, hk0, ?_⟩
      refine ⟨_, rfl, p, _, _, _, rfl, rfl, SqL.of gp', rfl, _, rfl, _, _, rfl, rfl, ⟨hk0, hk⟩, _, rfl, p, _, _, 2, rfl, rfl, gp', rfl, ?_⟩
      refine ⟨_, rfl, ?_⟩
      exact q _ _ (Int.emod_nonneg _ (by omega)) (Int.emod_lt_of_pos _ hk0) ⟨⟨a', _, ns, upd_same, by rw [upd_ne ncp]; exact gc', ncp, hns, ha'⟩, b.trans But.set⟩
theorem ok_law_one_of (T : Txt K mg) : FnOk P w K mg base CX0 3 T.f_law_one_of T.d_law_one_of ["pen", "some"] (sp_law_one_of K) := by
  refine T.F_law_one_of.ok sc_law_one_of (fun vs H Q E h => ?_) (fun cdv A outer s H vs Q E hr h => ?_)
  · obtain ⟨p, c, a, n, xs, rfl, _⟩ := h
    rfl
  · obtain ⟨p, c, a, n, xs, rfl, hp, hS, nap, hne, hz, hn, q⟩ := h
    refine ⟨_, (pss_one (ps_ret (pe_ix ix_list (pv 1) (pe_call (ok_law_take T) (hr.mono (by decide)) rfl T.g_law_take T.F_law_take.kp T.b_law_take .nil pass0 (pa_cons (pv 0) (pa_cons (pe_callB call_len rfl T.z_len boot_len (pa_cons (pv 1) pa_nil)) pa_nil))) (fun _ _ => rfl)))), ?_⟩
    have hpos : 0 < xs.length := List.length_pos_iff.mpr hne
    refine ⟨_, rfl, _, rfl, _, rfl, _, _, rfl, .inl ⟨_, hS, rfl⟩, ?_⟩
    refine ⟨p, c, n, xs.length, rfl, hp, by omega, by omega, hn, fun r H' h0 h1 d => ?_⟩
    have hr' : r.toNat < xs.length := by omega
    have er : r = ((r.toNat : Nat) : Int) := by omega
    refine ⟨a, xs, r, xs[r.toNat], rfl, rfl, d.but.seq nap hS, ?_, ?_⟩
    · exact at_of er (List.getElem?_eq_getElem hr')
    · exact q _ H' (List.getElem_mem hr') d
theorem ok_law_signs (T : Txt K mg) : FnOk P w K mg base CX0 1 T.f_law_signs T.d_law_signs [] sp_law_signs := by
  refine T.F_law_signs.ok sc_law_signs (fun vs H Q E h => ?_) (fun cdv A outer s H vs Q E hr h => ?_)
  · obtain ⟨rfl, _⟩ := h
    rfl
  · obtain ⟨rfl, q⟩ := h
    refine ⟨_, (pss_one (ps_ret pe_str)), ?_⟩
    exact q

theorem ok_law_draw_number (T : Txt K mg) : FnOk P w K mg base CX0 4 T.f_law_draw_number T.d_law_draw_number ["pen"] sp_law_draw_number := by
  refine T.F_law_draw_number.ok sc_law_draw_number (fun vs H Q E h => ?_) (fun cdv A outer s H vs Q E hr h => ?_)
  · obtain ⟨p, c, n, rfl, _⟩ := h
    rfl
  · obtain ⟨p, c, n, rfl, hp, hn, q⟩ := h
    refine ⟨_, (Evl.pss_cut (ps_set (i := 1) sc_law_draw_number.nd rfl (Or.inl rfl) (pe_call (ok_law_one_of T) (hr.mono (by decide)) rfl T.g_law_one_of T.F_law_one_of.kp T.b_law_one_of .nil pass0 (pa_cons (pv 0) (pa_cons (pe_lst (pa_cons pe_int (pa_cons pe_int (pa_cons pe_int (pa_cons pe_int (pa_cons pe_int (pa_cons pe_int (pa_cons pe_int (pa_cons pe_int (pa_cons pe_int (pa_cons pe_int (pa_cons pe_int (pa_cons pe_int (pa_cons pe_int (pa_cons pe_int (pa_cons pe_int pa_nil)))))))))))))))) pa_nil))))
      (Evl.pss_cut (ps_set (i := 2) sc_law_draw_number.nd rfl (Or.inl rfl) (pe_lst (pa_cons pe_int (pa_cons pe_int (pa_cons (pe_call (ok_law_take T) (hr.mono (by decide)) rfl T.g_law_take T.F_law_take.kp T.b_law_take .nil pass0 (pa_cons (pv 0) (pa_cons pe_int pa_nil))) (pa_cons (pe_call (ok_law_take T) (hr.mono (by decide)) rfl T.g_law_take T.F_law_take.kp T.b_law_take .nil pass0 (pa_cons (pv 0) (pa_cons pe_int pa_nil))) (pa_cons (pe_call (ok_law_take T) (hr.mono (by decide)) rfl T.g_law_take T.F_law_take.kp T.b_law_take .nil pass0 (pa_cons (pv 0) (pa_cons pe_int pa_nil))) (pa_cons (pe_op op_sub (pe_op op_add (pv 1) (pe_call (ok_law_take T) (hr.mono (by decide)) rfl T.g_law_take T.F_law_take.kp T.b_law_take .nil pass0 (pa_cons (pv 0) (pa_cons pe_int pa_nil)))) pe_int) pa_nil))))))))
      (pss_one (ps_ret (pe_callB (call_max2 rfl) rfl T.z_max boot_max (pa_cons pe_int (pa_cons (pe_callB (call_min2 rfl) rfl T.z_min boot_min (pa_cons pe_int (pa_cons (pe_call (ok_law_one_of T) (hr.mono (by decide)) rfl T.g_law_one_of T.F_law_one_of.kp T.b_law_one_of .nil pass0 (pa_cons (pv 0) (pa_cons (pv 2) pa_nil))) pa_nil))) pa_nil))))))), ?_⟩
    refine ⟨fun σ' H' => ∃ z : Int, σ' = [some (.ref p), some (.int z), none] ∧ Drew p c H H' (n + 1), ?_, ?_⟩
    · refine ⟨_, rfl, by show 15 ≤ sizeLine; decide, fun l hl => ?_⟩
      refine ⟨p, c, l, n, _, rfl, hp.keep (Same.new hl), SqL.of upd_same, Ne.symm (hp.ne hl), by simp, by simp, by omega, fun x H2 hx d => ?_⟩
      have hx' : ∃ z : Int, x = .int z := by
        simp only [List.mem_cons, List.not_mem_nil, or_false] at hx
        rcases hx with h | h | h | h | h | h | h | h | h | h | h | h | h | h | h <;> exact ⟨_, h⟩
      obtain ⟨z, rfl⟩ := hx'
      exact ⟨z, rfl, d.pen, (But.new hl).trans d.but⟩
    · rintro σ' H1 ⟨near, rfl, d1⟩
      refine ⟨fun σ' H' => ∃ (l : Addr) (xs : List V), σ' = [some (.ref p), some (.int near), some (.ref l)] ∧ Drew p c H H' (n + 5) ∧ H' l = some (.lst xs) ∧ l ≠ p ∧ xs.length = 6 ∧ ∀ x ∈ xs, ∃ z : Int, x = .int z, ?_, ?_⟩
      · refine ⟨_, rfl, p, c, n + 1, _, rfl, d1.pen, by omega, by omega, by omega, fun r1 H2 _ _ d2 => ?_⟩
        refine ⟨_, rfl, p, c, n + 2, _, rfl, d2.pen, by omega, by omega, by omega, fun r2 H3 _ _ d3 => ?_⟩
        refine ⟨_, rfl, p, c, n + 3, _, rfl, d3.pen, by omega, by omega, by omega, fun r3 H4 _ _ d4 => ?_⟩
        refine ⟨_, rfl, _, rfl, p, c, n + 4, _, rfl, d4.pen, by omega, by omega, by omega, fun r4 H5 _ _ d5 => ?_⟩
        refine ⟨_, _, rfl, rfl, _, _, rfl, rfl, by show 6 ≤ sizeLine; decide, fun l hl => ?_⟩
        have d := (((d1.trans d2).trans d3).trans d4).trans d5
        refine ⟨l, _, rfl, d.keep (Same.new hl), upd_same, Ne.symm (d.pen.ne hl), rfl, fun x hx => ?_⟩
        simp only [List.mem_cons, List.not_mem_nil, or_false] at hx
        rcases hx with h | h | h | h | h | h <;> exact ⟨_, h⟩
      · rintro σ' H2 ⟨l, xs, rfl, d2, hl, nlp, hlen, hints⟩
        refine ⟨_, rfl, _, rfl, p, c, l, n + 5, xs, rfl, d2.pen, SqL.of hl, nlp, (by intro e; rw [e] at hlen; cases hlen), by omega, by omega, fun x H3 hx d3 => ?_⟩
        obtain ⟨z, rfl⟩ := hints x hx
        refine ⟨_, _, rfl, _, _, rfl, ?_⟩
        have e : ∃ k : Nat, k ≤ 9999 ∧ (if (if z < 9999 then z else 9999) > 0 then (if z < 9999 then z else 9999) else 0) = ((k : Nat) : Int) := by
          refine ⟨(if (if z < 9999 then z else 9999) > 0 then (if z < 9999 then z else 9999) else 0).toNat, ?_, ?_⟩ <;> split <;> split <;> omega
        obtain ⟨k, hk, ek⟩ := e
        have := q k H3 hk (d2.trans ⟨d3.pen.mono (by omega), d3.but⟩)
        rw [← ek] at this
        exact this
theorem ok_law_draw_text (T : Txt K mg) : FnOk P w K mg base CX0 4 T.f_law_draw_text T.d_law_draw_text ["pen", "least", "most"] sp_law_draw_text := by
  refine T.F_law_draw_text.ok sc_law_draw_text (fun vs H Q E h => ?_) (fun cdv A outer s H vs Q E hr h => ?_)
  · obtain ⟨p, c, n, a, b, rfl, _⟩ := h
    rfl
  · obtain ⟨p, c, n, a, b, rfl, hp, hn, ha1, hab, hb, q⟩ := h
    refine ⟨_, (pss_cons (ps_set (i := 3) sc_law_draw_text.nd rfl (Or.inl rfl) (pe_call (ok_law_one_of T) (hr.mono (by decide)) rfl T.g_law_one_of T.F_law_one_of.kp T.b_law_one_of .nil pass0 (pa_cons (pv 0) (pa_cons (pe_lst (pa_cons (pv 1) (pa_cons (pv 2) (pa_cons (pe_op op_add (pv 1) (pe_call (ok_law_take T) (hr.mono (by decide)) rfl T.g_law_take T.F_law_take.kp T.b_law_take .nil pass0 (pa_cons (pv 0) (pa_cons (pe_op op_add (pe_op op_sub (pv 2) (pv 1)) pe_int) pa_nil)))) (pa_cons (pe_callB (call_min2 rfl) rfl T.z_min boot_min (pa_cons (pv 2) (pa_cons (pe_op op_add (pv 1) pe_int) pa_nil))) (pa_cons (pe_callB (call_min2 rfl) rfl T.z_min boot_min (pa_cons (pv 2) (pa_cons pe_int pa_nil))) pa_nil)))))) pa_nil))))
      (Evl.pss_cut (ps_set (i := 3) sc_law_draw_text.nd rfl (Or.inl rfl) (pe_callB (call_max2 rfl) rfl T.z_max boot_max (pa_cons (pv 1) (pa_cons (pv 3) pa_nil))))
      (pss_cons (ps_if (pt_cmpR op_eq (pe_call (ok_law_take T) (hr.mono (by decide)) rfl T.g_law_take T.F_law_take.kp T.b_law_take .nil pass0 (pa_cons (pv 0) (pa_cons pe_int pa_nil))) pe_int (nomark _)) (pss_one (ps_ret (pe_slice sl_str (pe_op op_mul_str (pe_call (ok_law_one_of T) (hr.mono (by decide)) rfl T.g_law_one_of T.F_law_one_of.kp T.b_law_one_of .nil pass0 (pa_cons (pv 0) (pa_cons (pe_lst (pa_cons pe_str (pa_cons pe_str (pa_cons pe_str (pa_cons pe_str (pa_cons pe_str pa_nil)))))) pa_nil))) pe_int) po_none (po_some (pv 3))))) pss_nil)
      (pss_one (ps_ret (pe_join pe_str (pe_lc (own := [("k", 4)]) (g := (gName 4)) (tt := tYes)  rfl sc_law_draw_text.nd (pi_range1 rfl T.z_range (pa_cons (pv 3) pa_nil)) (blkOk_by (own := [("k", 4)]) (N := ["pen", "least", "most", "size", "k"]) (sc := defScope s_law_draw_text) (by decide +kernel)) (fun _ _ _ _ _ => (pg_name (i := 4) sc_law_draw_text.nd rfl (Or.inl rfl))) (fun _ _ _ _ _ => pts_nil) (fun _ _ _ _ _ => (pe_ix ix_str (pe_call0 (ok_law_signs T) (hr.mono (by decide)) rfl T.g_law_signs T.F_law_signs.kp T.b_law_signs .nil pass0) (pe_call (ok_law_take T) (hr.mono (by decide)) rfl T.g_law_take T.F_law_take.kp T.b_law_take .nil pass0 (pa_cons (pv 0) (pa_cons pe_int pa_nil))) (fun _ _ => rfl)))))))))), ?_⟩
    refine ⟨_, rfl, _, rfl, _, rfl, _, rfl, _, rfl, _, rfl, _, rfl, _, _, rfl, rfl, _, _, rfl, rfl, p, c, n, _, rfl, hp, by omega, by omega, by omega, fun r H1 h0 h1 d1 => ?_⟩
    refine ⟨_, _, rfl, rfl, _, rfl, _, rfl, _, _, rfl, rfl, _, _, rfl, _, rfl, _, _, rfl, by show 5 ≤ sizeLine; decide, fun l hl => ?_⟩
    refine ⟨p, c, l, n + 1, _, rfl, d1.pen.keep (Same.new hl), SqL.of upd_same, Ne.symm (d1.pen.ne hl), by simp, by simp, by omega, fun x H2 hx d2 => ?_⟩
    have hx' : ∃ z : Int, x = .int z ∧ 0 ≤ z ∧ z ≤ b := by
      simp only [List.mem_cons, List.not_mem_nil, or_false] at hx
      rcases hx with h | h | h | h | h
      · exact ⟨_, h, by omega, by omega⟩
      · exact ⟨_, h, by omega, by omega⟩
      · exact ⟨_, h, by omega, by omega⟩
      · exact ⟨_, h, by split <;> omega, by split <;> omega⟩
      · exact ⟨_, h, by split <;> omega, by split <;> omega⟩
    obtain ⟨z, rfl, hz0, hz1⟩ := hx'
    have d12 : Drew p c H H2 (n + 2) := ⟨d2.pen, (d1.but.trans (But.new hl)).trans d2.but⟩
    refine ⟨fun σ' H' => ∃ k : Nat, σ' = [some (.ref p), some (.int (a : Nat)), some (.int (b : Nat)), some (.int (k : Nat)), none] ∧ a ≤ k ∧ k ≤ b ∧ H2 = H', ?_, ?_⟩
    · refine ⟨_, rfl, _, rfl, _, _, rfl, ?_⟩
      have e : (if z > (a : Int) then z else (a : Int)) = (((if z > (a : Int) then z else (a : Int)).toNat : Nat) : Int) := by split <;> omega
      refine ⟨(if z > (a : Int) then z else (a : Int)).toNat, ?_, ?_, ?_, rfl⟩
      · rw [← e]; rfl
      · split <;> omega
      · split <;> omega
    · rintro σ' H' ⟨k, rfl, hk0, hk1, rfl⟩
      refine ⟨_, rfl, p, c, n + 2, _, rfl, d12.pen, by omega, by omega, by omega, fun r3 H3 h30 h31 d3 => ?_⟩
      have d123 := d12.trans d3
      refine ⟨rfl, _, rfl, ?_⟩
      refine ifb (fun _ => ?_) (fun _ => ?_)
      · refine ⟨_, rfl, by show 5 ≤ sizeLine; decide, fun l2 hl2 => ?_⟩
        refine ⟨p, c, l2, n + 3, _, rfl, d123.pen.keep (Same.new hl2), SqL.of upd_same, Ne.symm (d123.pen.ne hl2), by simp, by simp, by omega, fun x H4 hx d4 => ?_⟩
        have hw : ∃ y ∈ textWords, x = .str y := by
          simp only [List.mem_cons, List.not_mem_nil, or_false] at hx
          rcases hx with h | h | h | h | h
          · exact ⟨_, by decide, h⟩
          · exact ⟨_, by decide, h⟩
          · exact ⟨_, by decide, h⟩
          · exact ⟨_, by decide, h⟩
          · exact ⟨_, by decide, h⟩
        obtain ⟨y, hy, rfl⟩ := hw
        have ok := List.all_eq_true.mp words_ok y hy
        simp only [Bool.and_eq_true, decide_eq_true_eq] at ok
        obtain ⟨⟨ok1, ok2⟩, ok3⟩ := ok
        refine ⟨y, 9, rfl, rfl, by decide, by decide, ok2, by omega, ?_⟩
        have hrl := rep_len y 9
        refine ⟨_, rfl, _, rfl, _, rfl, ?_, ?_⟩
        · exact len100 (by show (repS y 9).length ≤ 100000; omega)
        · refine q _ H4 ?_ ⟨d4.pen.mono (by omega), (d123.but.trans (But.new hl2)).trans d4.but⟩
          have hl9 : (repS y 9).cps.toList.length = 9 * y.length := by rw [← str_len]; exact hrl
          refine txt_cut (x := repS y 9) ?_ ⟨ha1, hk0, hk1⟩ (rep_all ok1)
          omega
      · refine ⟨⟨_, rfl⟩, _, rfl, _, rfl, by omega, by omega, fun D hD => ?_⟩
        refine lc_gen walk_range (fun i ys H' => Drew p c H3 H' (n + 3 + i) ∧ ∃ cs : List Nat, ys = cs.map (fun c => V.str ⟨#[c]⟩) ∧ cs.all isChar = true) (by omega) ?_ (fun _ _ _ _ => True.intro) ?_ ?_
        · exact ⟨⟨(d123.pen.upd (d123.pen.ne hD) (d123.pen.nec hD)).mono (by omega), But.new hD⟩, [], rfl, rfl⟩
        · rintro i ys x H' H'' Q' Z hi hl hDl ⟨d4, cs, rfl, hcs⟩ ⟨rfl, rfl⟩ q'
          refine ⟨rfl, yesI ?_⟩
          refine ⟨rfl, _, rfl, p, c, n + 3 + i, _, rfl, d4.pen, by omega, by omega, by omega, fun r5 H5 h50 h51 d5 => ?_⟩
          have hr5 : r5.toNat < charCodes.length := by
            have : charCodes.length = 43 := rfl
            omega
          have e5 : charCodes[r5.toNat]? = some charCodes[r5.toNat] := List.getElem?_eq_getElem hr5
          have e6 : signs.cps.toList[r5.toNat]? = some charCodes[r5.toNat] := by rw [signs_cps]; exact e5
          refine ⟨signs, r5, charCodes[r5.toNat], rfl, rfl, by decide, at_ofN (j := r5.toNat) (by omega) e6, ?_⟩
          have npD : p ≠ D := d123.pen.ne hD
          have ncD : c ≠ D := d123.pen.nec hD
          refine q' _ H5 (d5.but D _ (Ne.symm npD) hDl) ⟨⟨(d5.pen.upd npD ncD).mono (by omega), (d4.but.trans d5.but).put hD⟩, cs ++ [charCodes[r5.toNat]], ?_, ?_⟩
          · rw [List.map_append]; rfl
          · rw [List.all_append, hcs]
            have : isChar charCodes[r5.toNat] = true := List.contains_iff_mem.mpr (List.getElem_mem hr5)
            simp [this]
        · rintro ys H' hl hDl ⟨d4, cs, rfl, hcs⟩
          rw [List.length_map] at hl
          refine ⟨"", D, cs.map (fun c => (⟨#[c]⟩ : Str)), rfl, rfl, .inl (SqL.of (by rw [hDl, List.map_map]; rfl)), ?_, ?_⟩
          · have e0 : ("" : Str).length = 0 := rfl
            have e1 : ((cs.map (fun c => (⟨#[c]⟩ : Str))).map (·.length)).sum = cs.length := by
              rw [List.map_map]
              clear hcs hDl hl
              induction cs with
              | nil => rfl
              | cons a r ih => rw [List.map_cons, List.sum_cons, ih, List.length_cons]; show 1 + r.length = _; omega
            rw [e1, e0]
            omega
          · have ej : Txt.join "" (cs.map (fun c => (⟨#[c]⟩ : Str))) = ⟨cs.toArray⟩ := join_signs cs
            rw [ej]
            have e2 : (⟨cs.toArray⟩ : Str).length = cs.length := by show cs.toArray.size = _; simp
            refine q _ H' (txt_of (by omega) (by omega) ?_) (d123.trans (d4.mono (by omega)))
            show cs.toArray.toList.all isChar = true
            simpa using hcs

theorem same_zip {xs ys : List V} {ds : List PyData} {n : Nat} {H : Hp} {i : Nat} {x y : V} (ax : DpAll K H xs ds) (ay : DpAll K H ys ds) (hd : ∀ d ∈ ds, DLe n d) (hx : xs[i]? = some x) (hy : ys[i]? = some y) :
    ∃ d, Dp K H x d ∧ Dp K H y d ∧ DLe n d := by
  obtain ⟨d, h1, h2⟩ := dpAll_at ax hx
  obtain ⟨e, h3, h4⟩ := dpAll_at ay hy
  rw [h1] at h3
  cases h3
  exact ⟨d, h2, h4, hd d (List.mem_of_getElem? h1)⟩
theorem ok_law_same__rec (T : Txt K mg) (n k : Nat) (G : FnOk P w K mg base CX0 k T.f_law_same T.d_law_same ["found", "due"] (sp_same_sub K n)) : FnOk P w K mg base CX0 (k + 1) T.f_law_same T.d_law_same ["found", "due"] (sp_law_same K n) := by
  refine T.F_law_same.ok sc_law_same (fun vs H Q E h => ?_) (fun cdv A outer s H vs Q E hr h => ?_)
  · obtain ⟨v, u, d, rfl, _⟩ := h
    rfl
  · obtain ⟨v, u, d, rfl, hv, hu, hd, q⟩ := h
    refine ⟨_, (pss_cons (ps_if (PW.pt (pw_or (pt_cmpR op_isN (pv 1) pe_non (nomark _)) (pw_or1 (pt_cmpR op_isN (pv 0) pe_non (nomark _))))) (pss_one (ps_ret (pe_and (pe_cmpR op_isN (pv 1) pe_non (nomark _)) (pe_one (pe_cmpR op_isN (pv 0) pe_non (nomark _)))))) pss_nil)
      (pss_cons (ps_if (PW.pt (pw_or (pt_val (pe_callB call_isi rfl T.z_isinstance boot_isinstance (pa_cons (pv 1) (pa_cons (pe_bltn (v := .ty "bool") rfl T.z_bool boot_bool rfl) pa_nil)))) (pw_or1 (pt_val (pe_callB call_isi rfl T.z_isinstance boot_isinstance (pa_cons (pv 0) (pa_cons (pe_bltn (v := .ty "bool") rfl T.z_bool boot_bool rfl) pa_nil))))))) (pss_one (ps_ret (pe_and (pe_callB call_isi rfl T.z_isinstance boot_isinstance (pa_cons (pv 1) (pa_cons (pe_bltn (v := .ty "bool") rfl T.z_bool boot_bool rfl) pa_nil))) (pe_and (pe_callB call_isi rfl T.z_isinstance boot_isinstance (pa_cons (pv 0) (pa_cons (pe_bltn (v := .ty "bool") rfl T.z_bool boot_bool rfl) pa_nil))) (pe_one (pe_cmpR op_eq (pv 0) (pv 1) (nomark _))))))) pss_nil)
      (pss_cons (ps_if (pt_val (pe_callB call_isiT rfl T.z_isinstance boot_isinstance (pa_cons (pv 1) (pa_cons (pe_tup (pa_cons (pe_bltn (v := .ty "int") rfl T.z_int boot_int rfl) (pa_cons (pe_bltn (v := .ty "str") rfl T.z_str boot_str rfl) pa_nil))) pa_nil)))) (pss_cons (ps_if (pt_cmpR op_ne (pe_callB call_isi rfl T.z_isinstance boot_isinstance (pa_cons (pv 0) (pa_cons (pe_bltn (v := .ty "int") rfl T.z_int boot_int rfl) pa_nil))) (pe_callB call_isi rfl T.z_isinstance boot_isinstance (pa_cons (pv 1) (pa_cons (pe_bltn (v := .ty "int") rfl T.z_int boot_int rfl) pa_nil))) (nomark _)) (pss_one (ps_ret pe_bl)) pss_nil)
      (pss_one (ps_ret (pe_and (pe_callB call_isiT rfl T.z_isinstance boot_isinstance (pa_cons (pv 0) (pa_cons (pe_tup (pa_cons (pe_bltn (v := .ty "int") rfl T.z_int boot_int rfl) (pa_cons (pe_bltn (v := .ty "str") rfl T.z_str boot_str rfl) pa_nil))) pa_nil))) (pe_one (pe_cmpR op_eq (pv 0) (pv 1) (nomark _))))))) pss_nil)
      (pss_cons (ps_if (PW.pt (pw_or (pt_cmpR op_ne (pe_callB call_isi rfl T.z_isinstance boot_isinstance (pa_cons (pv 1) (pa_cons (pe_bltn (v := .ty "tuple") rfl T.z_tuple boot_tuple rfl) pa_nil))) (pe_callB call_isi rfl T.z_isinstance boot_isinstance (pa_cons (pv 0) (pa_cons (pe_bltn (v := .ty "tuple") rfl T.z_tuple boot_tuple rfl) pa_nil))) (nomark _)) (pw_or1 (pt_cmpR op_ne (pe_callB call_isi rfl T.z_isinstance boot_isinstance (pa_cons (pv 1) (pa_cons (pe_bltn (v := .ty "list") rfl T.z_list boot_list rfl) pa_nil))) (pe_callB call_isi rfl T.z_isinstance boot_isinstance (pa_cons (pv 0) (pa_cons (pe_bltn (v := .ty "list") rfl T.z_list boot_list rfl) pa_nil))) (nomark _))))) (pss_one (ps_ret pe_bl)) pss_nil)
      (pss_cons (ps_if (pt_cmpR op_ne (pe_callB call_len rfl T.z_len boot_len (pa_cons (pv 0) pa_nil)) (pe_callB call_len rfl T.z_len boot_len (pa_cons (pv 1) pa_nil)) (nomark _)) (pss_one (ps_ret pe_bl)) pss_nil)
      (pss_one (ps_ret (pe_cmpR op_notIn_seq pe_bl (pe_lc (own := [("one", 2), ("other", 3)]) (g := (gTup K 2 (gCons (gName 2) (gCons (gName 3) gNil)))) (tt := tYes)  rfl sc_law_same.nd (RZ.pi_zipA rfl T.z_zip (pa_cons (pv 0) (pa_cons (pv 1) pa_nil))) (blkOk_by (own := [("one", 2), ("other", 3)]) (N := ["found", "due", "one", "other"]) (sc := defScope s_law_same) (by decide +kernel)) (fun _ _ _ _ _ => (pg_tup rfl (pgs_cons (pg_name (i := 2) sc_law_same.nd rfl (Or.inl rfl)) (pgs_cons (pg_name (i := 3) sc_law_same.nd rfl (Or.inl rfl)) pgs_nil)))) (fun _ _ _ _ _ => pts_nil) (fun _ _ _ _ _ => (pe_call G hr rfl T.g_law_same T.F_law_same.kp T.b_law_same .nil pass0 (pa_cons (pv 2) (pa_cons (pv 3) pa_nil))))) rfl)))))))), ?_⟩
    cases hv with
    | non =>
      cases hu
      exact ⟨_, rfl, rfl, _, rfl, iteT ⟨_, rfl, rfl, _, rfl, iteT ⟨_, rfl, rfl, q H (Same.refl _)⟩⟩⟩
    | bl b =>
      have k0 : Kind K H (.bl b) "bool" := .bl b
      cases hu
      refine ⟨_, rfl, rfl, _, rfl, ifF rfl ⟨_, rfl, rfl, _, rfl, ifF rfl ?_⟩⟩
      refine ⟨_, rfl, _, _, _, _, _, rfl, .ty _, k0.ty, k0.kit, _, rfl, iteT ?_⟩
      refine ⟨_, rfl, _, _, _, _, _, rfl, .ty _, k0.ty, k0.kit, _, rfl, iteT ?_⟩
      refine ⟨_, rfl, _, _, _, _, _, rfl, .ty _, k0.ty, k0.kit, _, rfl, iteT ?_⟩
      exact ⟨_, rfl, _, rfl, rfl, Q_bl (q H (Same.refl _)) (decide_eq_true rfl).symm⟩
    | int i =>
      have k0 : Kind K H (.int i) "int" := .int i
      cases hu
      refine ⟨_, rfl, rfl, _, rfl, ifF rfl ⟨_, rfl, rfl, _, rfl, ifF rfl ?_⟩⟩
      refine ⟨_, rfl, _, _, _, _, _, rfl, .ty _, k0.ty, k0.kit, _, rfl, ifF rfl ?_⟩
      refine ⟨_, rfl, _, _, _, _, _, rfl, .ty _, k0.ty, k0.kit, _, rfl, ifF rfl ?_⟩
      refine ⟨_, rfl, by show 2 ≤ sizeLine; decide, fun tp htp => ?_⟩
      have k1 := k0.keep (Same.new (o := .tup [.ty "int", .ty "str"]) htp)
      refine ⟨_, tp, _, _, _, _, rfl, upd_same, .cons (.ty _) (.cons (.ty _) .nil), k1.ty, k1.kit2, _, rfl, ifT rfl ?_⟩
      refine ⟨_, rfl, _, _, _, _, _, rfl, .ty _, k1.ty, k1.kit, _, rfl, _, _, _, _, _, rfl, .ty _, k1.ty, k1.kit, rfl, _, rfl, ifF rfl ?_⟩
      refine ⟨_, rfl, by show 2 ≤ sizeLine; decide, fun tp2 htp2 => ?_⟩
      have k2 := k1.keep (Same.new (o := .tup [.ty "int", .ty "str"]) htp2)
      refine ⟨_, tp2, _, _, _, _, rfl, upd_same, .cons (.ty _) (.cons (.ty _) .nil), k2.ty, k2.kit2, _, rfl, ifT rfl ?_⟩
      exact ⟨_, rfl, _, rfl, rfl, Q_bl (q _ ((Same.new htp).trans (Same.new htp2))) (decide_eq_true rfl).symm⟩
    | str x =>
      have k0 : Kind K H (.str x) "str" := .str x
      cases hu
      refine ⟨_, rfl, rfl, _, rfl, ifF rfl ⟨_, rfl, rfl, _, rfl, ifF rfl ?_⟩⟩
      refine ⟨_, rfl, _, _, _, _, _, rfl, .ty _, k0.ty, k0.kit, _, rfl, ifF rfl ?_⟩
      refine ⟨_, rfl, _, _, _, _, _, rfl, .ty _, k0.ty, k0.kit, _, rfl, ifF rfl ?_⟩
      refine ⟨_, rfl, by show 2 ≤ sizeLine; decide, fun tp htp => ?_⟩
      have k1 := k0.keep (Same.new (o := .tup [.ty "int", .ty "str"]) htp)
      refine ⟨_, tp, _, _, _, _, rfl, upd_same, .cons (.ty _) (.cons (.ty _) .nil), k1.ty, k1.kit2, _, rfl, ifT rfl ?_⟩
      refine ⟨_, rfl, _, _, _, _, _, rfl, .ty _, k1.ty, k1.kit, _, rfl, _, _, _, _, _, rfl, .ty _, k1.ty, k1.kit, rfl, _, rfl, ifF rfl ?_⟩
      refine ⟨_, rfl, by show 2 ≤ sizeLine; decide, fun tp2 htp2 => ?_⟩
      have k2 := k1.keep (Same.new (o := .tup [.ty "int", .ty "str"]) htp2)
      refine ⟨_, tp2, _, _, _, _, rfl, upd_same, .cons (.ty _) (.cons (.ty _) .nil), k2.ty, k2.kit2, _, rfl, ifT rfl ?_⟩
      exact ⟨_, rfl, _, rfl, rfl, Q_bl (q _ ((Same.new htp).trans (Same.new htp2))) (decide_eq_true rfl).symm⟩
    | @lst av xv ds h1 a1 =>
      cases hu with
      | @lst au xu _ h2 a2 =>
      cases n with
      | zero => exact hd.elim
      | succ m =>
      obtain ⟨hlen, hds⟩ := hd
      have kv : Kind K H (.ref av) "list" := .lst h1
      have ku : Kind K H (.ref au) "list" := .lst h2
      refine ⟨_, rfl, rfl, _, rfl, ifF rfl ⟨_, rfl, rfl, _, rfl, ifF rfl ?_⟩⟩
      refine ⟨_, rfl, _, _, _, _, _, rfl, .ty _, ku.ty, ku.kit, _, rfl, ifF rfl ?_⟩
      refine ⟨_, rfl, _, _, _, _, _, rfl, .ty _, kv.ty, kv.kit, _, rfl, ifF rfl ?_⟩
      refine ⟨_, rfl, by show 2 ≤ sizeLine; decide, fun tp htp => ?_⟩
      have s1 := Same.new (o := .tup [.ty "int", .ty "str"]) htp
      have ku1 := ku.keep s1
      have kv1 := kv.keep s1
      refine ⟨_, tp, _, _, _, _, rfl, upd_same, .cons (.ty _) (.cons (.ty _) .nil), ku1.ty, ku1.kit2, _, rfl, ifF rfl ?_⟩
      refine ⟨_, rfl, _, _, _, _, _, rfl, .ty _, ku1.ty, ku1.kit, _, rfl, _, _, _, _, _, rfl, .ty _, kv1.ty, kv1.kit, rfl, _, rfl, ifF rfl ?_⟩
      refine ⟨_, rfl, _, _, _, _, _, rfl, .ty _, ku1.ty, ku1.kit, _, rfl, _, _, _, _, _, rfl, .ty _, kv1.ty, kv1.kit, rfl, _, rfl, ifF rfl ?_⟩
      have l1 := dpAll_len a1
      have l2 := dpAll_len a2
      refine ⟨_, rfl, _, _, rfl, .inl ⟨_, s1.seq h1, rfl⟩, _, rfl, _, _, rfl, .inl ⟨_, s1.seq h2, rfl⟩, rfl, _, rfl, ifF (by rw [l1, l2]; simp) ?_⟩
      refine ⟨_, rfl, _, rfl, av, au, xv, xu, rfl, .inl ⟨s1.seq h1, s1.seq h2, fun D hD => ?_⟩⟩
      refine lc_map (walk_zip (n := ds.length) (by rw [l1, l2, Nat.min_self])) (fun _ => V.bl true) (by omega) hD (fun H' s2 => ⟨(s1.trans s2).seq h1, (s1.trans s2).seq h2⟩) ?_ ?_
      · rintro i z H' H'' Q' Z hi s2 ⟨t, x, y, rfl, ht, rfl, hx, hy⟩ q'
        refine ⟨t, _, rfl, SqT.of upd_same, rfl, _, _, rfl, _, _, rfl, rfl, rfl, yesI ?_⟩
        obtain ⟨d, d1, d2, d3⟩ := same_zip (H := H) (K := K) (n := m) a1 a2 hds hx hy
        have s3 := (s1.trans s2).trans (Same.new (o := .tup [x, y]) ht)
        exact ⟨_, rfl, _, rfl, x, y, d, rfl, dp_keep s3 d1, dp_keep s3 d2, d3, fun H4 s4 => q' H4 ((Same.new ht).trans s4)⟩
      · intro H' s2 hD'
        refine ⟨D, _, rfl, .inl (SqL.of hD'), rfl, flat_trues _, ?_⟩
        refine Q_bl (q H' (s1.trans s2)) ?_
        rw [in_trues]
        rfl
    | @tup av xv ds h1 a1 =>
      cases hu with
      | @tup au xu _ h2 a2 =>
      cases n with
      | zero => exact hd.elim
      | succ m =>
      obtain ⟨hlen, hds⟩ := hd
      have kv : Kind K H (.ref av) "tuple" := .tup h1
      have ku : Kind K H (.ref au) "tuple" := .tup h2
      refine ⟨_, rfl, rfl, _, rfl, ifF rfl ⟨_, rfl, rfl, _, rfl, ifF rfl ?_⟩⟩
      refine ⟨_, rfl, _, _, _, _, _, rfl, .ty _, ku.ty, ku.kit, _, rfl, ifF rfl ?_⟩
      refine ⟨_, rfl, _, _, _, _, _, rfl, .ty _, kv.ty, kv.kit, _, rfl, ifF rfl ?_⟩
      refine ⟨_, rfl, by show 2 ≤ sizeLine; decide, fun tp htp => ?_⟩
      have s1 := Same.new (o := .tup [.ty "int", .ty "str"]) htp
      have ku1 := ku.keep s1
      have kv1 := kv.keep s1
      refine ⟨_, tp, _, _, _, _, rfl, upd_same, .cons (.ty _) (.cons (.ty _) .nil), ku1.ty, ku1.kit2, _, rfl, ifF rfl ?_⟩
      refine ⟨_, rfl, _, _, _, _, _, rfl, .ty _, ku1.ty, ku1.kit, _, rfl, _, _, _, _, _, rfl, .ty _, kv1.ty, kv1.kit, rfl, _, rfl, ifF rfl ?_⟩
      refine ⟨_, rfl, _, _, _, _, _, rfl, .ty _, ku1.ty, ku1.kit, _, rfl, _, _, _, _, _, rfl, .ty _, kv1.ty, kv1.kit, rfl, _, rfl, ifF rfl ?_⟩
      have l1 := dpAll_len a1
      have l2 := dpAll_len a2
      refine ⟨_, rfl, _, _, rfl, .inr ⟨_, s1.tup h1, rfl⟩, _, rfl, _, _, rfl, .inr ⟨_, s1.tup h2, rfl⟩, rfl, _, rfl, ifF (by rw [l1, l2]; simp) ?_⟩
      refine ⟨_, rfl, _, rfl, av, au, xv, xu, rfl, .inr ⟨s1.tup h1, s1.tup h2, fun D hD => ?_⟩⟩
      refine lc_map (walk_zipT (n := ds.length) (by rw [l1, l2, Nat.min_self])) (fun _ => V.bl true) (by omega) hD (fun H' s2 => ⟨(s1.trans s2).tup h1, (s1.trans s2).tup h2⟩) ?_ ?_
      · rintro i z H' H'' Q' Z hi s2 ⟨t, x, y, rfl, ht, rfl, hx, hy⟩ q'
        refine ⟨t, _, rfl, SqT.of upd_same, rfl, _, _, rfl, _, _, rfl, rfl, rfl, yesI ?_⟩
        obtain ⟨d, d1, d2, d3⟩ := same_zip (H := H) (K := K) (n := m) a1 a2 hds hx hy
        have s3 := (s1.trans s2).trans (Same.new (o := .tup [x, y]) ht)
        exact ⟨_, rfl, _, rfl, x, y, d, rfl, dp_keep s3 d1, dp_keep s3 d2, d3, fun H4 s4 => q' H4 ((Same.new ht).trans s4)⟩
      · intro H' s2 hD'
        refine ⟨D, _, rfl, .inl (SqL.of hD'), rfl, flat_trues _, ?_⟩
        refine Q_bl (q H' (s1.trans s2)) ?_
        rw [in_trues]
        rfl
theorem ok_law_same (T : Txt K mg) : FnOk P w K mg base CX0 12 T.f_law_same T.d_law_same ["found", "due"] (sp_law_same K 11) := by
  have step : ∀ n, FnOk P w K mg base CX0 (n + 1) T.f_law_same T.d_law_same ["found", "due"] (sp_law_same K n) := by
    intro n
    induction n with
    | zero => exact ok_law_same__rec T 0 0 ⟨fun _ _ _ _ h => h.elim, fun _ _ _ _ _ _ _ _ _ _ _ _ _ h => h.elim⟩
    | succ m ih => exact ok_law_same__rec T (m + 1) (m + 1) ih
  exact step 11

theorem mark_ok {b r : Nat} (h1 : 1 ≤ b) (h8 : b ≤ 8) (hr : r < 256 / 2 ^ b) : MarkOk b (2 ^ b * r) := by
  have hp := pow_pos2 b
  have h256 : 2 ^ b * (256 / 2 ^ b) = 256 := by
    have : b = 1 ∨ b = 2 ∨ b = 3 ∨ b = 4 ∨ b = 5 ∨ b = 6 ∨ b = 7 ∨ b = 8 := by omega
    rcases this with h | h | h | h | h | h | h | h <;> subst h <;> rfl
  have hm : 2 ^ b * (r + 1) ≤ 2 ^ b * (256 / 2 ^ b) := Nat.mul_le_mul_left _ hr
  rw [h256, Nat.mul_add] at hm
  refine ⟨h1, h8, by omega, ?_⟩
  rw [← bits_cast, Bits.bitAnd_mask b (Int.natCast_nonneg _)]
  have e : ((2 : Int) ^ b) = ((2 ^ b : Nat) : Int) := by norm_cast
  rw [e, ← Int.natCast_emod, Nat.mul_mod_right]
  rfl
theorem ok_law (T : Txt K mg) : FnOk P w K mg base CX0 13 T.f_law T.d_law ["script"] (spLaw K) := by
  refine T.F_law.ok sc_law (fun vs H Q E h => ?_) (fun cdv A outer s H vs Q E hr h => ?_)
  · obtain ⟨a, ns, rfl, _⟩ := h
    rfl
  · obtain ⟨a, ns, rfl, hS, hl, q⟩ := h
    refine ⟨_, (pss_cons (ps_set (i := 1) sc_law.nd rfl (Or.inl rfl) (pe_call (ok_law_open T) (hr.mono (by decide)) rfl T.g_law_open T.F_law_open.kp T.b_law_open .nil pass0 (pa_cons (pv 0) pa_nil)))
      (pss_cons (ps_for PassesOwn.never rfl (pi_range1 rfl T.z_range (pa_cons pe_int pa_nil)) (pg_name (i := 2) sc_law.nd rfl (Or.inl rfl))
        (pss_cons (ps_par3 (i := 3) (j := 4) (l := 5) rfl sc_law.nd rfl rfl rfl (by decide) (by decide) (by decide) rfl rfl rfl (pa_cons (pe_call (ok_law_draw_number T) (hr.mono (by decide)) rfl T.g_law_draw_number T.F_law_draw_number.kp T.b_law_draw_number .nil pass0 (pa_cons (pv 1) pa_nil)) (pa_cons (pe_op op_add pe_int (pe_call (ok_law_take T) (hr.mono (by decide)) rfl T.g_law_take T.F_law_take.kp T.b_law_take .nil pass0 (pa_cons (pv 1) (pa_cons pe_int pa_nil)))) (pa_cons pe_int pa_nil))) (by rfl))
      (pss_cons (ps_for PassesOwn.never rfl (pi_range1 rfl T.z_range (pa_cons (pv 4) pa_nil)) (pg_name (i := 6) sc_law.nd rfl (Or.inl rfl))
        (pss_one (ps_set (i := 5) sc_law.nd rfl (Or.inl rfl) (pe_op op_mul (pv 5) pe_int))))
      (pss_cons (ps_set (i := 7) sc_law.nd rfl (Or.inl rfl) (pe_op op_mul (pv 5) (pe_call (ok_law_take T) (hr.mono (by decide)) rfl T.g_law_take T.F_law_take.kp T.b_law_take .nil pass0 (pa_cons (pv 1) (pa_cons (pe_op op_fdiv pe_int (pv 5)) pa_nil)))))
      (pss_cons (ps_set (i := 8) sc_law.nd rfl (Or.inl rfl) (pe_call (ok_number_octets T) (hr.mono (by decide)) rfl T.g_number_octets T.F_number_octets.kp T.b_number_octets .nil pass0 (pa_cons (pv 3) (pa_cons (pv 4) (pa_cons (pv 7) pa_nil)))))
      (pss_cons (ps_if (pt_not (pt_val (pe_call (ok_law_same T) (hr.mono (by decide)) rfl T.g_law_same T.F_law_same.kp T.b_law_same .nil pass0 (pa_cons (pv 8) (pa_cons (pe_call (ok_law_number_octets T) (hr.mono (by decide)) rfl T.g_law_number_octets T.F_law_number_octets.kp T.b_law_number_octets .nil pass0 (pa_cons (pv 3) (pa_cons (pv 4) (pa_cons (pv 7) pa_nil)))) pa_nil))))) (pss_one (ps_ret pe_bl)) pss_nil)
      (pss_cons (ps_expr (pe_bm PySem.F.plainAttrs_list PySem.F.slot_list_append PySem.F.type_list_append mt_append (pv 8) (pa_cons pe_non pa_nil)))
      (pss_cons (ps_if (pt_not (pt_val (pe_call (ok_law_same T) (hr.mono (by decide)) rfl T.g_law_same T.F_law_same.kp T.b_law_same .nil pass0 (pa_cons (pe_call (ok_number_octets T) (hr.mono (by decide)) rfl T.g_number_octets T.F_number_octets.kp T.b_number_octets .nil pass0 (pa_cons (pv 3) (pa_cons (pv 4) (pa_cons (pv 7) pa_nil)))) (pa_cons (pe_call (ok_law_number_octets T) (hr.mono (by decide)) rfl T.g_law_number_octets T.F_law_number_octets.kp T.b_law_number_octets .nil pass0 (pa_cons (pv 3) (pa_cons (pv 4) (pa_cons (pv 7) pa_nil)))) pa_nil))))) (pss_one (ps_ret pe_bl)) pss_nil)
      (pss_cons (ps_set (i := 9) sc_law.nd rfl (Or.inl rfl) (pe_call (ok_law_draw_text T) (hr.mono (by decide)) rfl T.g_law_draw_text T.F_law_draw_text.kp T.b_law_draw_text .nil pass0 (pa_cons (pv 1) (pa_cons pe_int (pa_cons pe_int pa_nil)))))
      (pss_one (ps_if (pt_not (pt_val (pe_call (ok_law_same T) (hr.mono (by decide)) rfl T.g_law_same T.F_law_same.kp T.b_law_same .nil pass0 (pa_cons (pe_call (ok_string_octets T) (hr.mono (by decide)) rfl T.g_string_octets T.F_string_octets.kp T.b_string_octets .nil pass0 (pa_cons (pv 9) (pa_cons (pv 4) (pa_cons (pv 7) pa_nil)))) (pa_cons (pe_call (ok_law_text_octets T) (hr.mono (by decide)) rfl T.g_law_text_octets T.F_law_text_octets.kp T.b_law_text_octets .nil pass0 (pa_cons (pv 9) (pa_cons (pv 4) (pa_cons (pv 7) pa_nil)))) pa_nil))))) (pss_one (ps_ret pe_bl)) pss_nil)))))))))))
      (pss_one (ps_ret pe_bl)))), ?_⟩
    refine ⟨_, rfl, a, ns, rfl, hS, hl, fun p c H1 hp s1 P1 => ?_⟩
    refine ⟨_, rfl, by decide, by decide, ?_⟩
    refine for_range (lo := 0) (n := 30) (fun i σ H' => ∃ v2 v3 v4 v5 v6 v7 v8 v9 : Option V, σ = [some (.ref a), some (.ref p), v2, v3, v4, v5, v6, v7, v8, v9] ∧ Pen H' p c (200 * i)) ⟨_, _, _, _, _, _, _, _, rfl, P1⟩ ?_ ?_
    · rintro i σ H2 hi ⟨v2, v3, v4, v5, v6, v7, v8, v9, rfl, P2⟩
      refine ⟨_, rfl, p, c, 200 * i, rfl, P2, by omega, fun z H3 hz d3 => ?_⟩
      refine ⟨_, rfl, p, c, 200 * i + 10, _, rfl, d3.pen, by decide, by decide, by omega, fun b0 H4 hb0 hb8 d4 => ?_⟩
      obtain ⟨b, hb⟩ : ∃ b : Nat, (1 : Int) + b0 = (b : Int) := ⟨(1 + b0).toNat, by omega⟩
      refine ⟨_, _, rfl, rfl, _, _, _, rfl, ?_⟩
      show tSeq _ _ _ [some (.ref a), some (.ref p), some (.int (0 + (i : Int))), some (.int (z : Nat)), some (.int (1 + b0)), some (.int 1), v6, v7, v8, v9] H4
      rw [hb]
      refine ⟨_, rfl, _, rfl, by omega, by omega, ?_⟩
      refine for_range (lo := 0) (n := ((b : Nat) : Int).toNat) (fun j σ H' => ∃ v6 : Option V, σ = [some (.ref a), some (.ref p), some (.int (0 + (i : Int))), some (.int (z : Nat)), some (.int (b : Nat)), some (.int (2 ^ j)), v6, v7, v8, v9] ∧ H4 = H') ⟨v6, rfl, rfl⟩ ?_ ?_
      · rintro j σ H' hj ⟨v6', rfl, rfl⟩
        refine ⟨_, rfl, _, _, rfl, rfl, .inr ⟨by decide, by decide⟩, ?_⟩
        exact ⟨_, by rw [Int.pow_succ]; rfl, rfl⟩
      · rintro σ H' ⟨v6', rfl, rfl⟩
        rw [Int.toNat_natCast]
        have hb1 : 1 ≤ b := by omega
        have hb8' : b ≤ 8 := by omega
        have hp2 := pow_pos2 b
        have hp8 := pow_le8 hb8'
        have e2 : ((2 : Int) ^ b) = ((2 ^ b : Nat) : Int) := by norm_cast
        rw [e2]
        have hdiv : 0 < 256 / 2 ^ b := Nat.div_pos hp8 hp2
        have ediv : (256 : Int) / ((2 ^ b : Nat) : Int) = ((256 / 2 ^ b : Nat) : Int) := by norm_cast
        refine ⟨_, rfl, _, rfl, _, rfl, _, _, rfl, rfl, ⟨by omega, by omega⟩, p, c, 200 * i + 11, _, rfl, d4.pen, ?_, ?_, by omega, fun r H5 hr0 hr1 d5 => ?_⟩
        · rw [ediv]; omega
        · rw [ediv]
          have : 256 / 2 ^ b ≤ 256 := Nat.div_le_self _ _
          omega
        rw [ediv] at hr1
        obtain ⟨rn, rfl⟩ : ∃ rn : Nat, r = (rn : Int) := ⟨r.toNat, by omega⟩
        have M := mark_ok (b := b) (r := rn) hb1 hb8' (by omega)
        refine ⟨_, _, rfl, rfl, .inl ⟨by omega, by omega⟩, ?_⟩
        show tSeq _ _ _ [some (.ref a), some (.ref p), some (.int (0 + (i : Int))), some (.int (z : Nat)), some (.int (b : Nat)), some (.int ((2 ^ b : Nat) : Int)), v6', some (.int (((2 ^ b : Nat) : Int) * (rn : Int))), v8, v9] H5
        rw [← Int.natCast_mul]
        have hnl := numOct_len z b (2 ^ b * rn)
        have dl : ∀ k, DLe (k + 1) (.list ((numOct z b (2 ^ b * rn)).map PyData.int)) := fun k => dle_ints (by omega) k
        -- found = number_octets(..)
        refine ⟨_, rfl, _, rfl, _, rfl, z, b, 2 ^ b * rn, rfl, hz, M, fun f H6 hf s6 gf => ?_⟩
        refine ⟨_, rfl, _, rfl, _, rfl, _, rfl, z, b, 2 ^ b * rn, rfl, hz, hb8', fun g H7 hg s7 gg => ?_⟩
        refine ⟨_, _, _, rfl, dp_lst (s7 _ _ gf), dp_lst gg, dl _, fun H8 s8 => ?_⟩
        refine ⟨_, rfl, ifF rfl ?_⟩
        -- found.append(None)
        have gf8 := s8 _ _ (s7 _ _ gf)
        refine ⟨_, rfl, .inl ⟨rfl, _, SqL.of gf8⟩, f, _, _, rfl, rfl, gf8, ?_, ?_⟩
        · rw [List.length_map, sizeLine_eq]; omega
        have P5 := d5.pen
        have P8 := ((P5.keep s6).keep s7).keep s8
        have P9 := P8.upd (q := f) (o := .lst ((numOct z b (2 ^ b * rn)).map V.int ++ [.non])) (P5.ne hf) (P5.nec hf)
        refine ⟨_, rfl, _, rfl, _, rfl, z, b, 2 ^ b * rn, rfl, hz, M, fun f2 H10 hf2 s10 gf2 => ?_⟩
        refine ⟨_, rfl, _, rfl, _, rfl, z, b, 2 ^ b * rn, rfl, hz, hb8', fun g2 H11 hg2 s11 gg2 => ?_⟩
        refine ⟨_, _, _, rfl, dp_lst (s11 _ _ gf2), dp_lst gg2, dl _, fun H12 s12 => ?_⟩
        refine ⟨_, rfl, ifF rfl ?_⟩
        have P12 := ((P9.keep s10).keep s11).keep s12
        -- text
        refine ⟨_, rfl, p, c, 200 * i + 12, 0, 40, rfl, P12, by omega, by decide, by decide, by decide, fun x H13 hx d13 => ?_⟩
        have hxl := txt_len hx
        have hxa := txt_all hx
        refine ⟨_, rfl, _, rfl, _, rfl, x, b, 2 ^ b * rn, rfl, hx, M, fun f3 H14 hf3 s14 gf3 => ?_⟩
        refine ⟨_, rfl, _, rfl, _, rfl, x, b, 2 ^ b * rn, rfl, by omega, hb8', fun g3 H15 hg3 s15 gg3 => ?_⟩
        rw [codes_chars hxa] at gg3
        have hnl2 := numOct_len x.length b (2 ^ b * rn)
        refine ⟨_, _, _, rfl, dp_lst (s15 _ _ gf3), dp_lst gg3, dle_ints ?_ _, fun H16 s16 => ?_⟩
        · rw [List.length_append, List.length_map, ← str_len]; omega
        refine ⟨_, rfl, ifF rfl ?_⟩
        exact ⟨_, _, _, _, _, _, _, _, rfl, (((d13.pen.keep s14).keep s15).keep s16).mono (by omega)⟩
    · rintro σ H' ⟨v2, v3, v4, v5, v6, v7, v8, v9, rfl, P2⟩
      exact q H'

end
theorem all_mk {l : PySem.W.OpenLaw} {w : World} {K : PySem.W.Frag} {h : Heap} {mg : Str → Option Value} {fa : Addr} (X : K.In h) (G : h.Ns mainGlobals mg) (hfa : mg "law" = some (.ref fa))
    {f0 : Addr} {od0 an0 : Option Addr} {sl0 : Array (Option Value)} {oc0 kV0 dc0 pm0 cd0 ct0 : Value}
    (a0 : PySem.W.nsIn K mainGlobals "is_between" = some (some (.ref f0))) (l0 : K.lookup f0 = some ⟨oc0, od0, .func (PySem.W.fnOf "is_between" "is_between" (defArgs s_is_between) (defBody s_is_between) (defScope s_is_between) .none kV0 dc0 pm0 an0 cd0 ct0), sl0⟩) (c0 : PySem.W.codeIn K cd0 "is_between" = true) (k0 : PySem.W.keepIn K (.ref f0) = true)
    {f1 : Addr} {od1 an1 : Option Addr} {sl1 : Array (Option Value)} {oc1 kV1 dc1 pm1 cd1 ct1 : Value}
    (a1 : PySem.W.nsIn K mainGlobals "is_number" = some (some (.ref f1))) (l1 : K.lookup f1 = some ⟨oc1, od1, .func (PySem.W.fnOf "is_number" "is_number" (defArgs s_is_number) (defBody s_is_number) (defScope s_is_number) .none kV1 dc1 pm1 an1 cd1 ct1), sl1⟩) (c1 : PySem.W.codeIn K cd1 "is_number" = true) (k1 : PySem.W.keepIn K (.ref f1) = true)
    {f2 : Addr} {od2 an2 : Option Addr} {sl2 : Array (Option Value)} {oc2 kV2 dc2 pm2 cd2 ct2 : Value}
    (a2 : PySem.W.nsIn K mainGlobals "is_text" = some (some (.ref f2))) (l2 : K.lookup f2 = some ⟨oc2, od2, .func (PySem.W.fnOf "is_text" "is_text" (defArgs s_is_text) (defBody s_is_text) (defScope s_is_text) .none kV2 dc2 pm2 an2 cd2 ct2), sl2⟩) (c2 : PySem.W.codeIn K cd2 "is_text" = true) (k2 : PySem.W.keepIn K (.ref f2) = true)
    {f3 : Addr} {od3 an3 : Option Addr} {sl3 : Array (Option Value)} {oc3 kV3 dc3 pm3 cd3 ct3 : Value}
    (a3 : PySem.W.nsIn K mainGlobals "is_value" = some (some (.ref f3))) (l3 : K.lookup f3 = some ⟨oc3, od3, .func (PySem.W.fnOf "is_value" "is_value" (defArgs s_is_value) (defBody s_is_value) (defScope s_is_value) .none kV3 dc3 pm3 an3 cd3 ct3), sl3⟩) (c3 : PySem.W.codeIn K cd3 "is_value" = true) (k3 : PySem.W.keepIn K (.ref f3) = true)
    {f4 : Addr} {od4 an4 : Option Addr} {sl4 : Array (Option Value)} {oc4 kV4 dc4 pm4 cd4 ct4 : Value}
    (a4 : PySem.W.nsIn K mainGlobals "check_prefix" = some (some (.ref f4))) (l4 : K.lookup f4 = some ⟨oc4, od4, .func (PySem.W.fnOf "check_prefix" "check_prefix" (defArgs s_check_prefix) (defBody s_check_prefix) (defScope s_check_prefix) .none kV4 dc4 pm4 an4 cd4 ct4), sl4⟩) (c4 : PySem.W.codeIn K cd4 "check_prefix" = true) (k4 : PySem.W.keepIn K (.ref f4) = true)
    {f5 : Addr} {od5 an5 : Option Addr} {sl5 : Array (Option Value)} {oc5 kV5 dc5 pm5 cd5 ct5 : Value}
    (a5 : PySem.W.nsIn K mainGlobals "prefix_bits" = some (some (.ref f5))) (l5 : K.lookup f5 = some ⟨oc5, od5, .func (PySem.W.fnOf "prefix_bits" "prefix_bits" (defArgs s_prefix_bits) (defBody s_prefix_bits) (defScope s_prefix_bits) .none kV5 dc5 pm5 an5 cd5 ct5), sl5⟩) (c5 : PySem.W.codeIn K cd5 "prefix_bits" = true) (k5 : PySem.W.keepIn K (.ref f5) = true)
    {f6 : Addr} {od6 an6 : Option Addr} {sl6 : Array (Option Value)} {oc6 kV6 dc6 pm6 cd6 ct6 : Value}
    (a6 : PySem.W.nsIn K mainGlobals "number_octets" = some (some (.ref f6))) (l6 : K.lookup f6 = some ⟨oc6, od6, .func (PySem.W.fnOf "number_octets" "number_octets" (defArgs s_number_octets) (defBody s_number_octets) (defScope s_number_octets) .none kV6 dc6 pm6 an6 cd6 ct6), sl6⟩) (c6 : PySem.W.codeIn K cd6 "number_octets" = true) (k6 : PySem.W.keepIn K (.ref f6) = true)
    {f7 : Addr} {od7 an7 : Option Addr} {sl7 : Array (Option Value)} {oc7 kV7 dc7 pm7 cd7 ct7 : Value}
    (a7 : PySem.W.nsIn K mainGlobals "string_octets" = some (some (.ref f7))) (l7 : K.lookup f7 = some ⟨oc7, od7, .func (PySem.W.fnOf "string_octets" "string_octets" (defArgs s_string_octets) (defBody s_string_octets) (defScope s_string_octets) .none kV7 dc7 pm7 an7 cd7 ct7), sl7⟩) (c7 : PySem.W.codeIn K cd7 "string_octets" = true) (k7 : PySem.W.keepIn K (.ref f7) = true)
    {f8 : Addr} {od8 an8 : Option Addr} {sl8 : Array (Option Value)} {oc8 kV8 dc8 pm8 cd8 ct8 : Value}
    (a8 : PySem.W.nsIn K mainGlobals "_law_open" = some (some (.ref f8))) (l8 : K.lookup f8 = some ⟨oc8, od8, .func (PySem.W.fnOf "_law_open" "_law_open" (defArgs s_law_open) (defBody s_law_open) (defScope s_law_open) .none kV8 dc8 pm8 an8 cd8 ct8), sl8⟩) (c8 : PySem.W.codeIn K cd8 "_law_open" = true) (k8 : PySem.W.keepIn K (.ref f8) = true)
    {f9 : Addr} {od9 an9 : Option Addr} {sl9 : Array (Option Value)} {oc9 kV9 dc9 pm9 cd9 ct9 : Value}
    (a9 : PySem.W.nsIn K mainGlobals "_law_spread" = some (some (.ref f9))) (l9 : K.lookup f9 = some ⟨oc9, od9, .func (PySem.W.fnOf "_law_spread" "_law_spread" (defArgs s_law_spread) (defBody s_law_spread) (defScope s_law_spread) .none kV9 dc9 pm9 an9 cd9 ct9), sl9⟩) (c9 : PySem.W.codeIn K cd9 "_law_spread" = true) (k9 : PySem.W.keepIn K (.ref f9) = true)
    {f10 : Addr} {od10 an10 : Option Addr} {sl10 : Array (Option Value)} {oc10 kV10 dc10 pm10 cd10 ct10 : Value}
    (a10 : PySem.W.nsIn K mainGlobals "_law_take" = some (some (.ref f10))) (l10 : K.lookup f10 = some ⟨oc10, od10, .func (PySem.W.fnOf "_law_take" "_law_take" (defArgs s_law_take) (defBody s_law_take) (defScope s_law_take) .none kV10 dc10 pm10 an10 cd10 ct10), sl10⟩) (c10 : PySem.W.codeIn K cd10 "_law_take" = true) (k10 : PySem.W.keepIn K (.ref f10) = true)
    {f11 : Addr} {od11 an11 : Option Addr} {sl11 : Array (Option Value)} {oc11 kV11 dc11 pm11 cd11 ct11 : Value}
    (a11 : PySem.W.nsIn K mainGlobals "_law_same" = some (some (.ref f11))) (l11 : K.lookup f11 = some ⟨oc11, od11, .func (PySem.W.fnOf "_law_same" "_law_same" (defArgs s_law_same) (defBody s_law_same) (defScope s_law_same) .none kV11 dc11 pm11 an11 cd11 ct11), sl11⟩) (c11 : PySem.W.codeIn K cd11 "_law_same" = true) (k11 : PySem.W.keepIn K (.ref f11) = true)
    {f12 : Addr} {od12 an12 : Option Addr} {sl12 : Array (Option Value)} {oc12 kV12 dc12 pm12 cd12 ct12 : Value}
    (a12 : PySem.W.nsIn K mainGlobals "_law_one_of" = some (some (.ref f12))) (l12 : K.lookup f12 = some ⟨oc12, od12, .func (PySem.W.fnOf "_law_one_of" "_law_one_of" (defArgs s_law_one_of) (defBody s_law_one_of) (defScope s_law_one_of) .none kV12 dc12 pm12 an12 cd12 ct12), sl12⟩) (c12 : PySem.W.codeIn K cd12 "_law_one_of" = true) (k12 : PySem.W.keepIn K (.ref f12) = true)
    {f13 : Addr} {od13 an13 : Option Addr} {sl13 : Array (Option Value)} {oc13 kV13 dc13 pm13 cd13 ct13 : Value}
    (a13 : PySem.W.nsIn K mainGlobals "_law_signs" = some (some (.ref f13))) (l13 : K.lookup f13 = some ⟨oc13, od13, .func (PySem.W.fnOf "_law_signs" "_law_signs" (defArgs s_law_signs) (defBody s_law_signs) (defScope s_law_signs) .none kV13 dc13 pm13 an13 cd13 ct13), sl13⟩) (c13 : PySem.W.codeIn K cd13 "_law_signs" = true) (k13 : PySem.W.keepIn K (.ref f13) = true)
    {f14 : Addr} {od14 an14 : Option Addr} {sl14 : Array (Option Value)} {oc14 kV14 dc14 pm14 cd14 ct14 : Value}
    (a14 : PySem.W.nsIn K mainGlobals "_law_draw_text" = some (some (.ref f14))) (l14 : K.lookup f14 = some ⟨oc14, od14, .func (PySem.W.fnOf "_law_draw_text" "_law_draw_text" (defArgs s_law_draw_text) (defBody s_law_draw_text) (defScope s_law_draw_text) .none kV14 dc14 pm14 an14 cd14 ct14), sl14⟩) (c14 : PySem.W.codeIn K cd14 "_law_draw_text" = true) (k14 : PySem.W.keepIn K (.ref f14) = true)
    {f15 : Addr} {od15 an15 : Option Addr} {sl15 : Array (Option Value)} {oc15 kV15 dc15 pm15 cd15 ct15 : Value}
    (a15 : PySem.W.nsIn K mainGlobals "_law_draw_number" = some (some (.ref f15))) (l15 : K.lookup f15 = some ⟨oc15, od15, .func (PySem.W.fnOf "_law_draw_number" "_law_draw_number" (defArgs s_law_draw_number) (defBody s_law_draw_number) (defScope s_law_draw_number) .none kV15 dc15 pm15 an15 cd15 ct15), sl15⟩) (c15 : PySem.W.codeIn K cd15 "_law_draw_number" = true) (k15 : PySem.W.keepIn K (.ref f15) = true)
    {f16 : Addr} {od16 an16 : Option Addr} {sl16 : Array (Option Value)} {oc16 kV16 dc16 pm16 cd16 ct16 : Value}
    (a16 : PySem.W.nsIn K mainGlobals "_law_number_octets" = some (some (.ref f16))) (l16 : K.lookup f16 = some ⟨oc16, od16, .func (PySem.W.fnOf "_law_number_octets" "_law_number_octets" (defArgs s_law_number_octets) (defBody s_law_number_octets) (defScope s_law_number_octets) .none kV16 dc16 pm16 an16 cd16 ct16), sl16⟩) (c16 : PySem.W.codeIn K cd16 "_law_number_octets" = true) (k16 : PySem.W.keepIn K (.ref f16) = true)
    {f17 : Addr} {od17 an17 : Option Addr} {sl17 : Array (Option Value)} {oc17 kV17 dc17 pm17 cd17 ct17 : Value}
    (a17 : PySem.W.nsIn K mainGlobals "_law_code" = some (some (.ref f17))) (l17 : K.lookup f17 = some ⟨oc17, od17, .func (PySem.W.fnOf "_law_code" "_law_code" (defArgs s_law_code) (defBody s_law_code) (defScope s_law_code) .none kV17 dc17 pm17 an17 cd17 ct17), sl17⟩) (c17 : PySem.W.codeIn K cd17 "_law_code" = true) (k17 : PySem.W.keepIn K (.ref f17) = true)
    {f18 : Addr} {od18 an18 : Option Addr} {sl18 : Array (Option Value)} {oc18 kV18 dc18 pm18 cd18 ct18 : Value}
    (a18 : PySem.W.nsIn K mainGlobals "_law_text_octets" = some (some (.ref f18))) (l18 : K.lookup f18 = some ⟨oc18, od18, .func (PySem.W.fnOf "_law_text_octets" "_law_text_octets" (defArgs s_law_text_octets) (defBody s_law_text_octets) (defScope s_law_text_octets) .none kV18 dc18 pm18 an18 cd18 ct18), sl18⟩) (c18 : PySem.W.codeIn K cd18 "_law_text_octets" = true) (k18 : PySem.W.keepIn K (.ref f18) = true)
    {f19 : Addr} {od19 an19 : Option Addr} {sl19 : Array (Option Value)} {oc19 kV19 dc19 pm19 cd19 ct19 : Value}
    (a19 : PySem.W.nsIn K mainGlobals "law" = some (some (.ref f19))) (l19 : K.lookup f19 = some ⟨oc19, od19, .func (PySem.W.fnOf "law" "law" (defArgs s_law) (defBody s_law) (defScope s_law) .none kV19 dc19 pm19 an19 cd19 ct19), sl19⟩) (c19 : PySem.W.codeIn K cd19 "law" = true) (k19 : PySem.W.keepIn K (.ref f19) = true)
    {tk0 : Tok} (v0 : PySem.W.nsIn K mainGlobals "NUMBER_MOST" = some (some (.int 9999 tk0)))
    {tk1 : Tok} (v1 : PySem.W.nsIn K mainGlobals "VALUE_MOST" = some (some (.int 40 tk1)))
    {ad2 : Addr} {es2 : Array DictEntry} {nd2 : Nat} (v2 : PySem.W.nsIn K mainGlobals "CHARACTERS" = some (some (.ref ad2))) (w2 : K.lookup ad2 = some ⟨.type "dict", none, .dict es2 nd2, #[]⟩) (e2 : EntI es2.toList chars) (q2 : (ad2 == sysModules) = false)
    (z0 : PySem.W.nsIn K mainGlobals "all" = some none)
    (z1 : PySem.W.nsIn K mainGlobals "bool" = some none)
    (z2 : PySem.W.nsIn K mainGlobals "enumerate" = some none)
    (z3 : PySem.W.nsIn K mainGlobals "int" = some none)
    (z4 : PySem.W.nsIn K mainGlobals "isinstance" = some none)
    (z5 : PySem.W.nsIn K mainGlobals "len" = some none)
    (z6 : PySem.W.nsIn K mainGlobals "list" = some none)
    (z7 : PySem.W.nsIn K mainGlobals "max" = some none)
    (z8 : PySem.W.nsIn K mainGlobals "min" = some none)
    (z9 : PySem.W.nsIn K mainGlobals "ord" = some none)
    (z10 : PySem.W.nsIn K mainGlobals "range" = some none)
    (z11 : PySem.W.nsIn K mainGlobals "str" = some none)
    (z12 : PySem.W.nsIn K mainGlobals "tuple" = some none)
    (z13 : PySem.W.nsIn K mainGlobals "zip" = some none)
    : ∃ fd : FuncData, (∀ (s : Shared) (v : Value), BindsTo s fd ⟨[v], []⟩ [("script", v)]) ∧ ∀ base : Heap, K.In base → base.Ns mainGlobals mg → FnOk l.prog w K mg base CX0 13 fa fd ["script"] (spLaw K) := by
  have e := hfa.symm.trans (PySem.W.mg_of X G a19)
  cases e
  have F0 := fun_mk (st := s_is_between) l0 c0 k0
  have b0 := F0.binds (ps := ["thing", "least", "most"]) fun _ _ _ _ _ _ us hl => match us, hl with | [_, _, _], _ => rfl
  have F1 := fun_mk (st := s_is_number) l1 c1 k1
  have b1 := F1.binds (ps := ["thing"]) fun _ _ _ _ _ _ us hl => match us, hl with | [_], _ => rfl
  have F2 := fun_mk (st := s_is_text) l2 c2 k2
  have b2 := F2.binds (ps := ["thing", "least", "most"]) fun _ _ _ _ _ _ us hl => match us, hl with | [_, _, _], _ => rfl
  have F3 := fun_mk (st := s_is_value) l3 c3 k3
  have b3 := F3.binds (ps := ["thing"]) fun _ _ _ _ _ _ us hl => match us, hl with | [_], _ => rfl
  have F4 := fun_mk (st := s_check_prefix) l4 c4 k4
  have b4 := F4.binds (ps := ["prefix", "mark"]) fun _ _ _ _ _ _ us hl => match us, hl with | [_, _], _ => rfl
  have F5 := fun_mk (st := s_prefix_bits) l5 c5 k5
  have b5 := F5.binds (ps := ["prefix"]) fun _ _ _ _ _ _ us hl => match us, hl with | [_], _ => rfl
  have F6 := fun_mk (st := s_number_octets) l6 c6 k6
  have b6 := F6.binds (ps := ["number", "prefix", "mark"]) fun _ _ _ _ _ _ us hl => match us, hl with | [_, _, _], _ => rfl
  have F7 := fun_mk (st := s_string_octets) l7 c7 k7
  have b7 := F7.binds (ps := ["text", "prefix", "mark"]) fun _ _ _ _ _ _ us hl => match us, hl with | [_, _, _], _ => rfl
  have F8 := fun_mk (st := s_law_open) l8 c8 k8
  have b8 := F8.binds (ps := ["script"]) fun _ _ _ _ _ _ us hl => match us, hl with | [_], _ => rfl
  have F9 := fun_mk (st := s_law_spread) l9 c9 k9
  have b9 := F9.binds (ps := ["cell", "at"]) fun _ _ _ _ _ _ us hl => match us, hl with | [_, _], _ => rfl
  have F10 := fun_mk (st := s_law_take) l10 c10 k10
  have b10 := F10.binds (ps := ["pen", "amount"]) fun _ _ _ _ _ _ us hl => match us, hl with | [_, _], _ => rfl
  have F11 := fun_mk (st := s_law_same) l11 c11 k11
  have b11 := F11.binds (ps := ["found", "due"]) fun _ _ _ _ _ _ us hl => match us, hl with | [_, _], _ => rfl
  have F12 := fun_mk (st := s_law_one_of) l12 c12 k12
  have b12 := F12.binds (ps := ["pen", "some"]) fun _ _ _ _ _ _ us hl => match us, hl with | [_, _], _ => rfl
  have F13 := fun_mk (st := s_law_signs) l13 c13 k13
  have b13 := F13.binds (ps := []) fun _ _ _ _ _ _ us hl => match us, hl with | [], _ => rfl
  have F14 := fun_mk (st := s_law_draw_text) l14 c14 k14
  have b14 := F14.binds (ps := ["pen", "least", "most"]) fun _ _ _ _ _ _ us hl => match us, hl with | [_, _, _], _ => rfl
  have F15 := fun_mk (st := s_law_draw_number) l15 c15 k15
  have b15 := F15.binds (ps := ["pen"]) fun _ _ _ _ _ _ us hl => match us, hl with | [_], _ => rfl
  have F16 := fun_mk (st := s_law_number_octets) l16 c16 k16
  have b16 := F16.binds (ps := ["number", "prefix", "mark"]) fun _ _ _ _ _ _ us hl => match us, hl with | [_, _, _], _ => rfl
  have F17 := fun_mk (st := s_law_code) l17 c17 k17
  have b17 := F17.binds (ps := ["sign"]) fun _ _ _ _ _ _ us hl => match us, hl with | [_], _ => rfl
  have F18 := fun_mk (st := s_law_text_octets) l18 c18 k18
  have b18 := F18.binds (ps := ["text", "prefix", "mark"]) fun _ _ _ _ _ _ us hl => match us, hl with | [_, _, _], _ => rfl
  have F19 := fun_mk (st := s_law) l19 c19 k19
  have b19 := F19.binds (ps := ["script"]) fun _ _ _ _ _ _ us hl => match us, hl with | [_], _ => rfl
  let T : Txt K mg := {
    f_is_between := f0
    d_is_between := _
    F_is_between := F0
    b_is_between := b0
    g_is_between := PySem.W.mg_of X G a0
    f_is_number := f1
    d_is_number := _
    F_is_number := F1
    b_is_number := b1
    g_is_number := PySem.W.mg_of X G a1
    f_is_text := f2
    d_is_text := _
    F_is_text := F2
    b_is_text := b2
    g_is_text := PySem.W.mg_of X G a2
    f_is_value := f3
    d_is_value := _
    F_is_value := F3
    b_is_value := b3
    g_is_value := PySem.W.mg_of X G a3
    f_check_prefix := f4
    d_check_prefix := _
    F_check_prefix := F4
    b_check_prefix := b4
    g_check_prefix := PySem.W.mg_of X G a4
    f_prefix_bits := f5
    d_prefix_bits := _
    F_prefix_bits := F5
    b_prefix_bits := b5
    g_prefix_bits := PySem.W.mg_of X G a5
    f_number_octets := f6
    d_number_octets := _
    F_number_octets := F6
    b_number_octets := b6
    g_number_octets := PySem.W.mg_of X G a6
    f_string_octets := f7
    d_string_octets := _
    F_string_octets := F7
    b_string_octets := b7
    g_string_octets := PySem.W.mg_of X G a7
    f_law_open := f8
    d_law_open := _
    F_law_open := F8
    b_law_open := b8
    g_law_open := PySem.W.mg_of X G a8
    f_law_spread := f9
    d_law_spread := _
    F_law_spread := F9
    b_law_spread := b9
    g_law_spread := PySem.W.mg_of X G a9
    f_law_take := f10
    d_law_take := _
    F_law_take := F10
    b_law_take := b10
    g_law_take := PySem.W.mg_of X G a10
    f_law_same := f11
    d_law_same := _
    F_law_same := F11
    b_law_same := b11
    g_law_same := PySem.W.mg_of X G a11
    f_law_one_of := f12
    d_law_one_of := _
    F_law_one_of := F12
    b_law_one_of := b12
    g_law_one_of := PySem.W.mg_of X G a12
    f_law_signs := f13
    d_law_signs := _
    F_law_signs := F13
    b_law_signs := b13
    g_law_signs := PySem.W.mg_of X G a13
    f_law_draw_text := f14
    d_law_draw_text := _
    F_law_draw_text := F14
    b_law_draw_text := b14
    g_law_draw_text := PySem.W.mg_of X G a14
    f_law_draw_number := f15
    d_law_draw_number := _
    F_law_draw_number := F15
    b_law_draw_number := b15
    g_law_draw_number := PySem.W.mg_of X G a15
    f_law_number_octets := f16
    d_law_number_octets := _
    F_law_number_octets := F16
    b_law_number_octets := b16
    g_law_number_octets := PySem.W.mg_of X G a16
    f_law_code := f17
    d_law_code := _
    F_law_code := F17
    b_law_code := b17
    g_law_code := PySem.W.mg_of X G a17
    f_law_text_octets := f18
    d_law_text_octets := _
    F_law_text_octets := F18
    b_law_text_octets := b18
    g_law_text_octets := PySem.W.mg_of X G a18
    f_law := fa
    d_law := _
    F_law := F19
    b_law := b19
    g_law := PySem.W.mg_of X G a19
    t_NUMBER_MOST := tk0
    g_NUMBER_MOST := PySem.W.mg_of X G v0
    t_VALUE_MOST := tk1
    g_VALUE_MOST := PySem.W.mg_of X G v1
    a_CHARACTERS := ad2
    g_CHARACTERS := PySem.W.mg_of X G v2
    CHARACTERS_d := ⟨⟨_, _, w2, e2⟩, q2⟩
    z_all := PySem.W.mg_none_of X G z0
    z_bool := PySem.W.mg_none_of X G z1
    z_enumerate := PySem.W.mg_none_of X G z2
    z_int := PySem.W.mg_none_of X G z3
    z_isinstance := PySem.W.mg_none_of X G z4
    z_len := PySem.W.mg_none_of X G z5
    z_list := PySem.W.mg_none_of X G z6
    z_max := PySem.W.mg_none_of X G z7
    z_min := PySem.W.mg_none_of X G z8
    z_ord := PySem.W.mg_none_of X G z9
    z_range := PySem.W.mg_none_of X G z10
    z_str := PySem.W.mg_none_of X G z11
    z_tuple := PySem.W.mg_none_of X G z12
    z_zip := PySem.W.mg_none_of X G z13
  }
  exact ⟨PySem.W.fnOf "law" "law" (defArgs s_law) (defBody s_law) (defScope s_law) .none kV19 dc19 pm19 an19 cd19 ct19, fun s v => .of_eq rfl, fun base _ _ => ok_law T⟩
theorem walk {l : PySem.W.OpenLaw} {q : Program} {loose : List Str} {XP : (Str → Option Value) → Heap → Prop} {YP : World → Heap → Prop} {d : DefRec} {K : Params → PySem.W.Frag} (hn : l.most = some 63) (hdf : d.params.defaults = [])
    (hY : ∀ (w : World) (h : Heap), YP w h → (K w.params).In h)
    (F : ∀ (w : World) (mg : Str → Option Value) (fa : Addr) (h : Heap), (K w.params).In h → h.Ns mainGlobals mg → mg d.name = some (.ref fa) →
      ∃ fd : FuncData, (∀ (s : Shared) (u : Value), BindsTo s fd ⟨[u], []⟩ [("script", u)]) ∧ ∀ base : Heap, (K w.params).In base → base.Ns mainGlobals mg → FnOk l.prog w (K w.params) mg base CX0 13 fa fd ["script"] (spLaw (K w.params))) :
    PySem.W.WalkO q loose XP YP l.row.toRowW d [] (fun f vs => PySem.call f vs) :=
  L2.walk_of (n := 63) (k := 13) (x := "script") (CX := fun _ => CX0) (sp := fun w => spLaw (K w.params)) hn (by decide) hdf ⟨rfl, by decide, by decide⟩ hY F (fun _ _ a ns hl _ hS => ⟨a, ns, rfl, hS, hl, fun _ => rfl⟩) fun _ _ _ _ _ z => z
end Fld
open PySem PySem.W PyProof.Rows
set_option maxRecDepth 100000 in
set_option maxHeartbeats 0 in
theorem PySem.Challenge.cw_fieldtable_k01_numbers_and_strings_writt_holds : PySem.Challenge.rw_fieldtable_k01_numbers_and_strings_writt.Holds := by
  w_on; o_law; k_head; (case hw => w_witness2)
  k_fill
  refine Fld.walk (l := PySem.Challenge.rw_fieldtable_k01_numbers_and_strings_writt) rfl rfl (fun w h Y => PySem.W.kIn_of Y) ?F
  case F =>
    intro w mg fa h KX G hmg
    refine' Fld.all_mk KX G hmg ?a0 ?l0 ?c0 ?k0 ?a1 ?l1 ?c1 ?k1 ?a2 ?l2 ?c2 ?k2 ?a3 ?l3 ?c3 ?k3 ?a4 ?l4 ?c4 ?k4 ?a5 ?l5 ?c5 ?k5 ?a6 ?l6 ?c6 ?k6 ?a7 ?l7 ?c7 ?k7 ?a8 ?l8 ?c8 ?k8 ?a9 ?l9 ?c9 ?k9 ?a10 ?l10 ?c10 ?k10 ?a11 ?l11 ?c11 ?k11 ?a12 ?l12 ?c12 ?k12 ?a13 ?l13 ?c13 ?k13 ?a14 ?l14 ?c14 ?k14 ?a15 ?l15 ?c15 ?k15 ?a16 ?l16 ?c16 ?k16 ?a17 ?l17 ?c17 ?k17 ?a18 ?l18 ?c18 ?k18 ?a19 ?l19 ?c19 ?k19 ?v0 ?v1 ?v2 ?w2 ?e2 ?q2 ?z0 ?z1 ?z2 ?z3 ?z4 ?z5 ?z6 ?z7 ?z8 ?z9 ?z10 ?z11 ?z12 ?z13
    (case a0 => k_is)
    (case l0 => k_is)
    (case c0 => k_is)
    (case k0 => k_is)
    (case a1 => k_is)
    (case l1 => k_is)
    (case c1 => k_is)
    (case k1 => k_is)
    (case a2 => k_is)
    (case l2 => k_is)
    (case c2 => k_is)
    (case k2 => k_is)
    (case a3 => k_is)
    (case l3 => k_is)
    (case c3 => k_is)
    (case k3 => k_is)
    (case a4 => k_is)
    (case l4 => k_is)
    (case c4 => k_is)
    (case k4 => k_is)
    (case a5 => k_is)
    (case l5 => k_is)
    (case c5 => k_is)
    (case k5 => k_is)
    (case a6 => k_is)
    (case l6 => k_is)
    (case c6 => k_is)
    (case k6 => k_is)
    (case a7 => k_is)
    (case l7 => k_is)
    (case c7 => k_is)
    (case k7 => k_is)
    (case a8 => k_is)
    (case l8 => k_is)
    (case c8 => k_is)
    (case k8 => k_is)
    (case a9 => k_is)
    (case l9 => k_is)
    (case c9 => k_is)
    (case k9 => k_is)
    (case a10 => k_is)
    (case l10 => k_is)
    (case c10 => k_is)
    (case k10 => k_is)
    (case a11 => k_is)
    (case l11 => k_is)
    (case c11 => k_is)
    (case k11 => k_is)
    (case a12 => k_is)
    (case l12 => k_is)
    (case c12 => k_is)
    (case k12 => k_is)
    (case a13 => k_is)
    (case l13 => k_is)
    (case c13 => k_is)
    (case k13 => k_is)
    (case a14 => k_is)
    (case l14 => k_is)
    (case c14 => k_is)
    (case k14 => k_is)
    (case a15 => k_is)
    (case l15 => k_is)
    (case c15 => k_is)
    (case k15 => k_is)
    (case a16 => k_is)
    (case l16 => k_is)
    (case c16 => k_is)
    (case k16 => k_is)
    (case a17 => k_is)
    (case l17 => k_is)
    (case c17 => k_is)
    (case k17 => k_is)
    (case a18 => k_is)
    (case l18 => k_is)
    (case c18 => k_is)
    (case k18 => k_is)
    (case a19 => k_is)
    (case l19 => k_is)
    (case c19 => k_is)
    (case k19 => k_is)
    (case v0 => k_is)
    (case v1 => k_is)
    (case v2 => k_is)
    (case w2 => k_is)
    (case e2 => repeat (first | exact Paired.nil | refine Paired.cons ⟨⟨_, rfl⟩, rfl, ⟨_, rfl⟩⟩ ?_))
    (case q2 => first | rfl | decide +kernel | k_is)
    (case z0 => k_is)
    (case z1 => k_is)
    (case z2 => k_is)
    (case z3 => k_is)
    (case z4 => k_is)
    (case z5 => k_is)
    (case z6 => k_is)
    (case z7 => k_is)
    (case z8 => k_is)
    (case z9 => k_is)
    (case z10 => k_is)
    (case z11 => k_is)
    (case z12 => k_is)
    (case z13 => k_is)
