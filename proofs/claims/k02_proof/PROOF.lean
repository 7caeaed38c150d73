import PyProof.Rows.All
import Wide.All
import OpenK.AllK
import Wide.FinOn
import PyProof.EqAt
import PyProof.EqKinds
import PyProof.TupleCall
import HandS.ForExc
import HandS.Comp
import HandS.Iter
import HandS.Gcd
import HandS.Wide
import HandS.Evl
import HandS.Defaults
import HandS.ExcIs
import HandS.TupAny
import HandS.TupMul
import HandS.StrMore
import HandS.Text
import HandS.Style
import HandS.Codes
import HandS.ExcInit
import HandS.ExcField
import HandS.Walk
import PyProof.ReprRoads
import PyProof.ReprLen
import PyProof.CallFns
import PyProof.Rows.RegStrFacts
import PySem.Challenge.RW_threadworth_k02_whole_numbers_reckon_rig
set_option Elab.async false
set_option linter.all false
set_option maxRecDepth 100000
set_option maxHeartbeats 4000000
namespace T
open PySem PySem.Spec PyProof.Rows L2
/-! ### the mathematics of worlds and numbers -/
def primes : List Int := [2, 3, 5, 7, 11, 13, 17, 19, 23, 29, 31]
def isW (p d : Int) : Bool := if p = 0 then (if -20 ≤ d then decide (d ≤ 20) else false) else (if inV (.int p) (primes.map V.int) = true then (if 0 ≤ d then decide (d < p) else false) else false)
theorem inV_ints {p : Int} : ∀ {l : List Int}, inV (.int p) (l.map V.int) = true → p ∈ l
  | [], h => by cases h
  | x :: l, h => by
    have h1 : ((eqV (.int x) (.int p)) || inV (.int p) (l.map V.int)) = true := h
    rcases (Bool.or_eq_true _ _).mp h1 with h | h
    · have : x = p := of_decide_eq_true (show decide (x = p) = true by simpa [eqV] using h)
      rw [this]
      exact List.mem_cons_self
    · exact List.mem_cons_of_mem _ (inV_ints h)
theorem isW_prime {p d : Int} (h : isW p d = true) (hp : p ≠ 0) : p ∈ primes ∧ 0 ≤ d ∧ d < p := by
  unfold isW at h
  rw [if_neg hp] at h
  by_cases e : inV (.int p) (primes.map V.int) = true
  · rw [if_pos e] at h
    by_cases e2 : 0 ≤ d
    · rw [if_pos e2] at h
      exact ⟨inV_ints e, e2, of_decide_eq_true h⟩
    · rw [if_neg e2] at h
      cases h
  · rw [if_neg e] at h
    cases h
theorem prime_pos {p : Int} (h : p ∈ primes) : 2 ≤ p ∧ p ≤ 31 := by
  simp only [primes, List.mem_cons, List.not_mem_nil, or_false] at h
  omega
theorem inv_exN : ∀ p ∈ [2, 3, 5, 7, 11, 13, 17, 19, 23, 29, 31], ∀ r, r < p → r ≠ 0 → ∃ k, k < p ∧ (k * r) % p = 1 := by decide +kernel
theorem inv_ex {p : Int} (hp : p ∈ primes) {r : Int} (h0 : 0 ≤ r) (h1 : r < p) (hr : r ≠ 0) : ∃ k : Int, 1 ≤ k ∧ k < p ∧ k * r % p = 1 := by
  obtain ⟨n, rfl⟩ := Int.eq_ofNat_of_zero_le (show 0 ≤ p by have := prime_pos hp; omega)
  obtain ⟨m, rfl⟩ := Int.eq_ofNat_of_zero_le h0
  have hn : n ∈ [2, 3, 5, 7, 11, 13, 17, 19, 23, 29, 31] := by
    simp only [primes, List.mem_cons, List.not_mem_nil, or_false] at hp ⊢
    omega
  obtain ⟨k, hk, e⟩ := inv_exN n hn m (by omega) (by omega)
  refine ⟨(k : Int), ?_, by omega, ?_⟩
  · rcases Nat.eq_zero_or_pos k with z | z
    · subst z
      rw [Nat.zero_mul, Nat.zero_mod] at e
      cases e
    · omega
  · have : ((k * m % n : Nat) : Int) = ((1 : Nat) : Int) := by rw [e]
    rw [← Int.natCast_mul, ← Int.natCast_emod, e]
    rfl
/-- lowest terms -/
def gI (a b : Int) : Int := ((Nat.gcd a.natAbs b.natAbs : Nat) : Int)
def low (a b : Int) : Int × Int := if b < 0 then ((-a) / gI a b, (-b) / gI a b) else (a / gI a b, b / gI a b)
theorem gI_pos {a b : Int} (hb : b ≠ 0) : 0 < gI a b := by
  have : 0 < Nat.gcd a.natAbs b.natAbs := Nat.gcd_pos_of_pos_right _ (by omega)
  unfold gI
  omega
theorem gI_le {a b : Int} (hb : b ≠ 0) : gI a b ≤ b.natAbs := by
  have := Nat.gcd_le_right (m := a.natAbs) (n := b.natAbs) (by omega)
  unfold gI
  omega
theorem fdiv_negg (a g : Int) (hg : 0 ≤ g) : a.fdiv (-g) = (-a) / g := by
  rw [← Int.fdiv_eq_ediv_of_nonneg _ hg, ← Int.neg_fdiv_neg (-a) g, Int.neg_neg]
/-- the number a / b -/
def bad (p b : Int) : Prop := b = 0 ∨ (0 < p ∧ b % p = 0)
def IsNum (p a b x y : Int) : Prop := (0 < p ∧ y = 1 ∧ 0 ≤ x ∧ x < p ∧ (x * b - a) % p = 0) ∨ (¬ 0 < p ∧ (x, y) = low a b)
theorem inv_solves {p a b k : Int} (hp : 0 < p) (e : k * (b % p) % p = 1) (h1 : 1 < p) : ((a * k % p) * b - a) % p = 0 := by
  have e1 : (k * b) % p = 1 := by
    rw [Int.mul_emod, Int.emod_emod_of_dvd _ (Int.dvd_refl p), ← Int.mul_emod] at e
    exact e
  have d1 : p ∣ k * b - 1 := by
    apply Int.dvd_of_emod_eq_zero
    rw [Int.sub_emod, e1, Int.emod_eq_of_lt (by omega) h1]
    simp
  have d2 : p ∣ a * k - a * k % p := Int.dvd_self_sub_emod
  apply Int.emod_eq_zero_of_dvd
  have : (a * k % p) * b - a = a * (k * b - 1) - (a * k - a * k % p) * b := by
    rw [Int.mul_sub, Int.sub_mul, Int.mul_assoc]
    omega
  rw [this]
  exact Int.dvd_sub (Int.dvd_mul_of_dvd_right d1) (Int.dvd_mul_of_dvd_left d2)
theorem num_unique {p a b x y x' y' : Int} (hp : p = 0 ∨ p ∈ primes) (hb : ¬ bad p b) (h : IsNum p a b x y) (h' : IsNum p a b x' y') : x = x' ∧ y = y' := by
  rcases h with ⟨h0, e1, l1, u1, m1⟩ | ⟨h0, e1⟩
  · rcases h' with ⟨_, e2, l2, u2, m2⟩ | ⟨h0', _⟩
    · refine ⟨?_, e1.trans e2.symm⟩
      rcases hp with rfl | hp
      · omega
      · have hp2 := prime_pos hp
        have hbp : b % p ≠ 0 := fun z => hb (.inr ⟨h0, z⟩)
        obtain ⟨k, k1, k2, ek⟩ := inv_ex hp (Int.emod_nonneg b (by omega)) (Int.emod_lt_of_pos b h0) hbp
        have e1 : (k * b) % p = 1 := by
          rw [Int.mul_emod, Int.emod_emod_of_dvd _ (Int.dvd_refl p), ← Int.mul_emod] at ek
          exact ek
        have d1 : p ∣ k * b - 1 := by
          apply Int.dvd_of_emod_eq_zero
          rw [Int.sub_emod, e1, Int.emod_eq_of_lt (show (0:Int) ≤ 1 by omega) (show (1:Int) < p by omega)]
          simp
        have d2 : p ∣ (x * b - a) - (x' * b - a) := Int.dvd_sub (Int.dvd_of_emod_eq_zero m1) (Int.dvd_of_emod_eq_zero m2)
        have d3 : p ∣ x - x' := by
          have e : x - x' = k * ((x * b - a) - (x' * b - a)) - (x - x') * (k * b - 1) := by
            have e3 : (x * b - a) - (x' * b - a) = (x - x') * b := by
              rw [Int.sub_mul]
              omega
            rw [e3, Int.mul_sub, Int.mul_one, ← Int.mul_assoc, Int.mul_comm k (x - x'), Int.mul_assoc]
            omega
          rw [e]
          exact Int.dvd_sub (Int.dvd_mul_of_dvd_right d2) (Int.dvd_mul_of_dvd_right d1)
        obtain ⟨c, ec⟩ := d3
        have hc : c = 0 := by
          rcases Int.lt_trichotomy c 0 with z | z | z
          · have : p * c ≤ p * (-1) := Int.mul_le_mul_of_nonneg_left (by omega) (by omega)
            omega
          · exact z
          · have : p * 1 ≤ p * c := Int.mul_le_mul_of_nonneg_left (by omega) (by omega)
            omega
        rw [hc, Int.mul_zero] at ec
        omega
    · exact absurd h0 h0'
  · rcases h' with ⟨h0', _⟩ | ⟨_, e2⟩
    · exact absurd h0' h0
    · have := e1.trans e2.symm
      exact ⟨congrArg Prod.fst this, congrArg Prod.snd this⟩
end T

/-! ### defs that are called where nothing is being shown (no repr is under way): what the law's own def may know -/
namespace L2
open PySem PySem.Spec PyProof.Rows
structure FnG (P : Program) (w : World) (K : PySem.W.Frag) (mg : Str → Option Value) (base : Heap) (k : Nat) (f : Addr) (fd : FuncData) (ps : List Str) (sp : Sp) : Prop where
  len : ∀ vs H Q E, sp vs H Q E → vs.length = ps.length
  run : ∀ (A : Around) (outer : List Env) (s : Shared) (H : Hp) (args : Args) (us : List Value) (vs : List V) (Q : VK) (E : XK), A.guards = some [] → Room k A → Env0 P w K mg base A outer s H →
    BindsTo s fd args (ps.zip us) → Vals vs us → sp vs H Q E → codeAny (model P w) A (.call (.ref f) args) (CR CX0 outer P w H s Q E) s
theorem CE_of {P : Program} {w : World} {K : PySem.W.Frag} {mg : Str → Option Value} {base : Heap} {N : List Str} {qual : Str} {scope : Scope} {f : Addr} {cdv : Value} {A : Around} {outer : List Env} {s s' : Shared} {H H' : Hp} {E : XK} {Q : VK} {σ' : St} {v : V} {u : Value}
    (J : Inv (cxOf CX0 P w K mg base N qual scope f cdv A outer s H E) [] σ' H' s') (rv : RelV v u) (q : Q v H') : CE outer P w H s Q u s' := ⟨v, H', J.os, J.bare, J.base, J.hok, rv, q⟩
theorem Fun.okG {P : Program} {w : World} {K : PySem.W.Frag} {mg : Str → Option Value} {base : Heap} {x qual : Str} {st : Stmt} {f : Addr} {fd : FuncData} {N ps : List Str} {k : Nat} {sp : Sp} (F : Fun K x qual st f fd) (S : FnScope N ps (defScope st))
    (len : ∀ vs H Q E, sp vs H Q E → vs.length = ps.length)
    (hbody : ∀ (cdv : Value) (A : Around) (outer : List Env) (s : Shared) (H : Hp) (vs : List V) (Q : VK) (E : XK), (A.deeper (envOfC qual (defScope st) s.heap.objs.size f cdv)).guards = some [] →
      Room k (A.deeper (envOfC qual (defScope st) s.heap.objs.size f cdv)) → sp vs H Q E →
      ∃ t, PSs (cxOf CX0 P w K mg base N qual (defScope st) f cdv A outer s H E).nox (defBody st) t ∧ t { nx := fun _ H' => Q .non H', rt := Q } (start N vs) H) : FnG P w K mg base (k + 1) f fd ps sp := by
  obtain ⟨oc, od, kV, doc, pm, an, cdv, ct, osl, rfl, lk, hcd⟩ := F.ex
  refine ⟨len, fun A outer s H args us vs Q E hgu hr e0 hb r hsp => ?_⟩
  have keep := fun b o (e : base.get? b = some o) => (e0.bs b o e).1
  have inK : K.In s.heap := e0.mod.kin.keeps keep
  refine codeAny_call_function hr.depth (inK _ _ lk) rfl S.co S.gen rfl (PySem.W.codeRec_of inK hcd) (hb _ _ _ _ ?_)
  refine wpAny_newFunctionEnv_cells S.kind (fun ⟨n, v⟩ hy => ?_) fun env he s1 xx => ?_
  · exact (S.par n (List.of_mem_zip hy).1).elim .inl fun q => .inr ⟨q, PySem.W.cellsFrom_some _ _ _ (.inl q)⟩
  · subst he
    refine ⟨(e0.mod.nolimit.keeps keep).keeps xx.toInCall.keep, codeAny_func ?_⟩
    obtain ⟨t, ht, hq⟩ := hbody cdv A outer s H vs Q E hgu (hr.deeper _) hsp
    have I := inv_start (CX := CX0) (E := E) S hr.hd e0 (len _ _ _ _ hsp) r xx
    refine wpAny_mono (ht.nox.run [] s1 _ H _ I hq) (fun fl s' hs => ?_) fun e s' hs => hs
    rcases fl with _ | _ | _ | u
    · obtain ⟨σ', H', J, q⟩ := hs
      exact CE_of (v := V.non) (u := Value.none) J rfl q
    · exact hs.elim fun _ z => z.elim fun _ z => z.2.elim
    · exact hs.elim fun _ z => z.elim fun _ z => z.2.elim
    · obtain ⟨v, σ', H', J, rv, q⟩ := hs
      exact CE_of J rv q
end L2

namespace L2
open PySem PySem.Spec PyProof.Rows
/-- the law's def, called by the claim's caller: nothing is being shown there -/
theorem goes_at {P : Program} {w : World} {K : PySem.W.Frag} {mg mb : Str → Option Value} {k : Nat} {fa a : Addr} {fd : FuncData} {x : Str} {sp : Sp} {t : Shared} {vs : List Value} {xs : List V} {H : Hp}
    (KX : K.In t.heap) (hns : t.heap.Ns mainGlobals mg) (hb : t.heap.Ns builtinsNs mb) (hbb : ∀ y : Str, y ≠ "__name__" → mb y = bootBuiltins y) (hlim : t.heap.NoLimit) (hg : t.gens = #[])
    (ha : t.heap.get? a = some { cls := .type "list", data := .seq vs.toArray }) (hr : Room k callerA)
    (F : ∀ base : Heap, K.In base → base.Ns mainGlobals mg → FnG P w K mg base k fa fd [x] sp) (hbind : ∀ (s : Shared) (u : Value), BindsTo s fd ⟨[u], []⟩ [(x, u)])
    (hO : Only H) (hsp : sp [.ref a] H (fun v _ => v = .bl true) fun _ _ _ => False) (hok : HOk P w H t.heap) (hA : ∀ b, H b ≠ none → b = a) (hK : H a ≠ none → K.lookup a = none) :
    codeAny (model P w) callerA (.call (.ref fa) ⟨[.ref a], []⟩) (fun r s' => r = .ok (.ret (.bool true)) ∧ OldK t.heap s'.heap ∧ s'.os = t.os ∧ AllBare s'.gens) t := by
  have free : ∀ {b : Addr}, (H b ≠ none → False) → H b = none := fun {b} z => by
    rcases e : H b with _ | u
    · rfl
    · exact (z (by rw [e]; exact fun q => nomatch q)).elim
  have ns : ∀ {b : Addr} {m : Str → Option Value}, t.heap.Ns b m → (hidT t.heap H).Ns b m := fun {b m} z => by
    obtain ⟨o, es, ep, e, d, r⟩ := z
    refine ⟨o, es, ep, hidT_get e (free fun z => ?_), d, r⟩
    rw [hA b z, ha] at e
    cases e
    cases d
  have inB : K.In (hidT t.heap H) := fun b o e => hidT_get (KX b o e) (free fun z => by
    have eb := hA b z
    rw [eb] at z e
    rw [hK z] at e
    cases e)
  obtain ⟨mc, l1, l2⟩ := hlim
  have env : Env0 P w K mg (hidT t.heap H) callerA [] t H := ⟨rfl, ⟨inB, ns hns, ⟨mb, ns hb, hbb⟩, ⟨mc, ns l1, l2⟩⟩, fun b o e => of_hidT e, Nat.le_of_eq (hidT_size _ _), trivial, fun b hb => (nomatch hb), hok, .of_eq hg⟩
  refine codeAny_mono ((F _ inB (ns hns)).run callerA [] t H _ [.ref a] [.ref a] _ _ rfl hr env (hbind t (.ref a)) (.cons rfl .nil) hsp) fun r s' h => ?_
  rcases r with e | fl
  · exact (show False from h).elim
  · rcases fl with _ | _ | _ | u
    · exact (show False from h).elim
    · exact (show False from h).elim
    · exact (show False from h).elim
    · obtain ⟨v, H', os, bare, un, hok', rv, q⟩ := h
      obtain rfl : v = .bl true := q
      obtain rfl : u = Value.bool true := rv
      refine ⟨rfl, OldK.of_keep fun b o e => ?_, os, bare⟩
      rcases hO b with z | ⟨ob, ys, z⟩
      · exact un.keep b o e z (fun z => nomatch z) (fun z => nomatch z)
      · have e1 := (hok b _ z).1
        rw [e] at e1
        rw [Option.some.inj e1]
        exact (hok' b _ (un.frzs b ob _ z)).1
theorem walk_ofG {l : PySem.W.OpenLaw} {n k : Nat} {q : Program} {loose : List Str} {XP : (Str → Option Value) → Heap → Prop} {YP : World → Heap → Prop} {d : DefRec} {K : Params → PySem.W.Frag} {sp : World → Sp} {x : Str}
    (hn : l.most = some n) (hn2 : n ≤ sizeLine) (hdf : d.params.defaults = []) (hr : Room k callerA) (hY : ∀ (w : World) (h : Heap), YP w h → (K w.params).In h)
    (F : ∀ (w : World) (mg : Str → Option Value) (fa : Addr) (h : Heap), (K w.params).In h → h.Ns mainGlobals mg → mg d.name = some (.ref fa) →
      ∃ fd : FuncData, (∀ (s : Shared) (u : Value), BindsTo s fd ⟨[u], []⟩ [(x, u)]) ∧ ∀ base : Heap, (K w.params).In base → base.Ns mainGlobals mg → FnG l.prog w (K w.params) mg base k fa fd [x] (sp w))
    (hsp : ∀ (w : World) (H : Hp) (a : Addr) (ns : List Int), ns.length ≤ n → SqL (K w.params) H a (ns.map V.int) → sp w [.ref a] H (fun v _ => v = .bl true) fun _ _ _ => False) :
    PySem.W.WalkO q loose XP YP l.row.toRowW d [] (fun f vs => PySem.call f vs) := by
  refine Att.attach_call hn hdf fun w s₀ t mg mb fa o pm cd doc a vs ns G Y ho hd hcd hmg hobj hints hlen hg => ?_
  have KX := hY w _ Y
  obtain ⟨fd, hb, hF⟩ := F w mg fa _ KX G.T.g hmg
  have rv : Vals (ns.map V.int) vs := vals_ints hints
  have lv := hints.length
  rcases hk : (K w.params).lookup a with _ | oa
  · refine goes_at (xs := ns.map V.int) (H := fun b => if b = a then some (.frz { cls := .type "list", data := .seq vs.toArray } (.lst (ns.map V.int))) else none) KX G.T.g G.T.b G.T.builtins G.T.nolimit hg hobj hr hF hb
      (fun b => ?_) (hsp w _ a ns hlen (.inl (.inr ⟨_, if_pos rfl⟩))) (fun b u z => ?_) (fun b z => Decidable.byContradiction fun c => z (if_neg c)) fun _ => hk
    · by_cases c : b = a
      · exact .inr ⟨_, _, if_pos c⟩
      · exact .inl (if_neg c)
    · by_cases c : b = a
      · have z' := (if_pos c).symm.trans z
        cases z'
        subst c
        exact ⟨hobj, by rw [List.length_map]; omega, vs, _, rv, hobj⟩
      · have z' := (if_neg c).symm.trans z
        cases z'
  · have e := (KX a oa hk).symm.trans hobj
    cases e
    exact goes_at (xs := ns.map V.int) (H := fun _ => none) KX G.T.g G.T.b G.T.builtins G.T.nolimit hg hobj hr hF hb (fun _ => .inl rfl)
      (hsp w _ a ns hlen (.inr ⟨_, vs.toArray, _, hk, rfl, rfl, rfl, by rw [List.size_toArray]; omega, rv⟩)) (fun b u z => nomatch z) (fun b z => (z rfl).elim) fun z => (z rfl).elim
end L2

namespace L2
open PySem PySem.Spec PyProof.Rows
/-! ### repr(data), where nothing is being shown -/
mutual
def wt : PyData → Nat
  | .none => 4
  | .bool _ => 5
  | .int _ => 1921
  | .str x => (reprText x).length
  | .list xs => wtAll xs + 3
  | .tuple xs => wtAll xs + 3
  | .dict _ => 0
def wtAll : List PyData → Nat
  | [] => 0
  | x :: xs => wt x + 2 + wtAll xs
end
mutual
theorem shown_wt : ∀ d : PyData, d.showable = true → d.hasDict = false → d.shown.length ≤ wt d
  | .none, _, _ => by simp only [PyData.shown, wt]; decide +kernel
  | .bool b, _, _ => by cases b <;> simp only [PyData.shown, wt] <;> decide +kernel
  | .int i, h, _ => by
    simp only [PyData.shown, wt]
    exact int_text_len_1921 (by simpa [PyData.showable] using h)
  | .str x, _, _ => by simp only [PyData.shown, wt]; exact Nat.le_refl _
  | .list xs, h, h2 => by
    simp only [PyData.showable] at h
    simp only [PyData.hasDict] at h2
    simp only [PyData.shown, wt]
    have h3 := shown_wtAll xs h h2
    have h4 := listText_len_le (PyData.shownAll xs)
    omega
  | .tuple xs, h, h2 => by
    simp only [PyData.showable] at h
    simp only [PyData.hasDict] at h2
    simp only [PyData.shown, wt]
    have h3 := shown_wtAll xs h h2
    have h4 := tupleText_len_le (PyData.shownAll xs)
    omega
  | .dict _, _, h2 => by simp [PyData.hasDict] at h2
theorem shown_wtAll : ∀ xs : List PyData, PyData.showableAll xs = true → PyData.hasDictAll xs = false → ((PyData.shownAll xs).map (·.length)).sum + 2 * (PyData.shownAll xs).length ≤ wtAll xs
  | [], _, _ => by simp [PyData.shownAll, wtAll]
  | x :: xs, h, h2 => by
    simp only [PyData.showableAll, Bool.and_eq_true] at h
    simp only [PyData.hasDictAll, Bool.or_eq_false_iff] at h2
    have h3 := shown_wt x h.1 h2.1
    have h4 := shown_wtAll xs h.2 h2.2
    simp only [PyData.shownAll, wtAll, List.map_cons, List.sum_cons, List.length_cons]
    omega
end
def rReprD (K : PySem.W.Frag) : List V → Hp → VK → Prop := fun xs H Q => ∃ x d, xs = [x] ∧ Dp K H x d ∧ SeqAt.shaped d = true ∧ d.showable = true ∧ wt d ≤ sizeLine ∧ Q (.str d.shown) H
theorem cr_reprD {X : Cx} (hg : X.A.guards = some []) (hu : X.A.units + 65 < cLine) : CallR X (.builtin "repr") (rReprD X.K) := by
  intro pins s σ H vs us Q I r h
  obtain ⟨x, d, rfl, hd, hs, hw, hz, q⟩ := h
  cases r with
  | cons rv rn =>
    rename_i v us'
    cases rn
    have hs' : (d.canLay0 && decide (d.depth ≤ 64)) = true := hs
    rw [Bool.and_eq_true] at hs'
    have nd := PyData.hasDict_of_canLay d hs'.1
    have dep : d.depth ≤ 64 := of_decide_eq_true hs'.2
    have sz := Nat.le_trans (shown_wt d hw nd) hz
    obtain ⟨as, rd⟩ := Dp.reads I d x v hd rv
    have ref : ∀ a : Addr, v = .ref a → wpAny (model X.prog X.w) X.A (call (.builtin "repr") [v]) (EP X pins σ Q) X.xe s := fun a e => by
      subst e
      exact repr_of_reads' rd hw (PyData.noDict_hsm nd) hg (by omega) (fun _ _ e => e) (fun h' u tk hk => ⟨.str _, H, I.kept (t' := tk) hk, ⟨u, rfl⟩, q⟩) sz
    cases hd with
    | non =>
      cases rv
      exact PySem.P.repr_of_none ⟨.str _, H, I.tok _, ⟨_, rfl⟩, by simpa only [PyData.shown] using q⟩
    | bl b =>
      cases rv
      exact PySem.P.repr_of_bool ⟨.str _, H, I.tok _, ⟨_, rfl⟩, by simpa only [PyData.shown] using q⟩
    | int i =>
      obtain ⟨t, rfl⟩ := rv
      exact PySem.P.repr_of_int (by simpa [PyData.showable] using hw) ⟨.str _, H, I.tok _, ⟨_, rfl⟩, by simpa only [PyData.shown] using q⟩
    | str y =>
      obtain ⟨t, rfl⟩ := rv
      exact PySem.P.repr_of_str ⟨.str _, H, I.tok _, ⟨_, rfl⟩, by simpa only [PyData.shown] using q⟩ (by simpa only [PyData.shown] using sz)
    | lst _ _ => exact ref _ rv
    | tup _ _ => exact ref _ rv
end L2

namespace T
/-! ### fractions -/
theorem low_pos {a : Int} {n : Nat} (hn : n ≠ 0) : low a (n : Int) = ((Rat.divInt a (n : Int)).num, ((Rat.divInt a (n : Int)).den : Int)) := by
  have e : Rat.divInt a (n : Int) = Rat.normalize a n hn := by
    show mkRat a n = _
    rw [Rat.mkRat_def, dif_neg hn]
  rw [e, Rat.normalize_eq]
  unfold low gI
  rw [if_neg (by omega), Int.natAbs_natCast]
  show (_, _) = (_, (((n / a.natAbs.gcd n : Nat)) : Int))
  rw [Int.natCast_ediv]
theorem low_rat {a b : Int} (hb : b ≠ 0) : low a b = ((Rat.divInt a b).num, ((Rat.divInt a b).den : Int)) := by
  by_cases c : 0 < b
  · obtain ⟨n, rfl⟩ := Int.eq_ofNat_of_zero_le (Int.le_of_lt c)
    exact low_pos (by omega)
  · obtain ⟨n, hn⟩ := Int.eq_ofNat_of_zero_le (show 0 ≤ -b by omega)
    have e : Rat.divInt a b = Rat.divInt (-a) (n : Int) := (Rat.divInt_eq_divInt_iff hb (by omega)).mpr (by rw [← hn, Int.mul_neg, Int.neg_mul])
    rw [e, ← low_pos (by omega), ← hn]
    unfold low gI
    rw [if_pos (by omega), if_neg (by omega), Int.natAbs_neg, Int.natAbs_neg]
theorem low_congr {a b a' b' : Int} (hb : b ≠ 0) (hb' : b' ≠ 0) (h : a * b' = a' * b) : low a b = low a' b' := by
  rw [low_rat hb, low_rat hb', (Rat.divInt_eq_divInt_iff hb hb').mpr h]
theorem low_q {a b u v : Int} (hb : b ≠ 0) (h : (u, v) = low a b) : Rat.divInt u v = Rat.divInt a b ∧ 0 < v := by
  rw [low_rat hb] at h
  have e1 : u = (Rat.divInt a b).num := congrArg Prod.fst h
  have e2 : v = ((Rat.divInt a b).den : Int) := congrArg Prod.snd h
  rw [e1, e2]
  exact ⟨Rat.num_divInt_den _, by have := (Rat.divInt a b).den_pos; omega⟩
theorem low_cross {a b u v : Int} (hb : b ≠ 0) (h : (u, v) = low a b) : u * b = a * v ∧ 0 < v := by
  obtain ⟨h1, h2⟩ := low_q hb h
  exact ⟨(Rat.divInt_eq_divInt_iff (by omega) hb).mp h1, h2⟩
/-- a number times a number: the parts may be reduced ahead or behind -/
theorem num_step {p A B u v a b u' v' : Int} (hp : p = 0 ∨ p ∈ primes) (hB : p = 0 → B ≠ 0) (hb0 : p = 0 → b ≠ 0) (hb1 : p ≠ 0 → b = 1) (hB1 : p ≠ 0 → B = 1) (h : IsNum p A B u v) (h' : IsNum p (u * a) (v * b) u' v') : IsNum p (A * a) (B * b) u' v' := by
  by_cases c : p = 0
  · obtain ⟨_, e⟩ := h.resolve_left (fun z => by omega)
    obtain ⟨_, e'⟩ := h'.resolve_left (fun z => by omega)
    obtain ⟨x1, x2⟩ := low_cross (hB c) e
    refine .inr ⟨by omega, e'.trans (low_congr (Int.mul_ne_zero (by omega) (hb0 c)) (Int.mul_ne_zero (hB c) (hb0 c)) ?_)⟩
    calc u * a * (B * b) = u * B * (a * b) := by rw [Int.mul_assoc, Int.mul_assoc]; congr 1; rw [← Int.mul_assoc, ← Int.mul_assoc, Int.mul_comm a B]
      _ = A * v * (a * b) := by rw [x1]
      _ = A * a * (v * b) := by rw [Int.mul_assoc, Int.mul_assoc]; congr 1; rw [← Int.mul_assoc, ← Int.mul_assoc, Int.mul_comm v a]
  · have hp2 := prime_pos (hp.resolve_left c)
    obtain ⟨h0, e1, l1, u1, m1⟩ := h.resolve_right (fun z => by omega)
    obtain ⟨_, e2, l2, u2, m2⟩ := h'.resolve_right (fun z => by omega)
    refine .inl ⟨h0, e2, l2, u2, ?_⟩
    rw [hB1 c, hb1 c]
    rw [hB1 c, Int.mul_one] at m1
    rw [hb1 c, e1] at m2
    have d1 := Int.dvd_of_emod_eq_zero m1
    have d2 := Int.dvd_of_emod_eq_zero m2
    apply Int.emod_eq_zero_of_dvd
    have e : u' * (1 * 1) - A * a = (u' * (1 * 1) - u * a) + (u - A) * a := by
      rw [Int.sub_mul]
      omega
    rw [e]
    exact Int.dvd_add d2 (Int.dvd_mul_of_dvd_left d1)
theorem low_small {a b u v : Int} (h : (u, v) = low a b) : u.natAbs ≤ a.natAbs ∧ v.natAbs ≤ b.natAbs := by
  have e1 := congrArg Prod.fst h
  have e2 := congrArg Prod.snd h
  unfold low at e1 e2
  by_cases c : b < 0
  · rw [if_pos c] at e1 e2
    have f1 : u = (-a) / gI a b := e1
    have f2 : v = (-b) / gI a b := e2
    have g1 := Int.natAbs_ediv_le_natAbs (-a) (gI a b)
    have g2 := Int.natAbs_ediv_le_natAbs (-b) (gI a b)
    rw [f1, f2]
    omega
  · rw [if_neg c] at e1 e2
    have f1 : u = a / gI a b := e1
    have f2 : v = b / gI a b := e2
    have g1 := Int.natAbs_ediv_le_natAbs a (gI a b)
    have g2 := Int.natAbs_ediv_le_natAbs b (gI a b)
    rw [f1, f2]
    omega
theorem num_small {p a b u v : Int} (hp : p = 0 ∨ p ∈ primes) (h : IsNum p a b u v) (ha : a.natAbs < 2 ^ 199) (hb : b.natAbs < 2 ^ 199) : u.natAbs < 2 ^ 200 ∧ v.natAbs < 2 ^ 200 := by
  rcases h with ⟨h0, rfl, h1, h2, _⟩ | ⟨_, h⟩
  · have := prime_pos (hp.resolve_left (by omega))
    omega
  · have := low_small h
    omega
theorem isW_cases {p d : Int} (hw : isW p d = true) : (p = 0 ∨ p ∈ primes) ∧ d.natAbs ≤ 31 := by
  by_cases c : p = 0
  · refine ⟨.inl c, ?_⟩
    unfold isW at hw
    rw [if_pos c] at hw
    by_cases h1 : -20 ≤ d
    · rw [if_pos h1] at hw
      have := of_decide_eq_true hw
      omega
    · rw [if_neg h1] at hw
      cases hw
  · obtain ⟨h1, h2, h3⟩ := isW_prime hw c
    have := prime_pos h1
    exact ⟨.inr h1, by omega⟩
end T

namespace T
/-! ### numbers of a world by what they are worth: a fraction and a whole number (the one that counts is told by p) -/
def NumOf (p : Int) (r : Rat) (n : Int) (u v : Int) : Prop := (p = 0 ∧ u = r.num ∧ v = (r.den : Int)) ∨ (p ≠ 0 ∧ u = n % p ∧ v = 1)
theorem numOf_unique {p : Int} {r r' : Rat} {n n' u v u' v' : Int} (h : NumOf p r n u v) (h' : NumOf p r' n' u' v') (hr : p = 0 → r = r') (hn : p ≠ 0 → n % p = n' % p) : u = u' ∧ v = v' := by
  rcases h with ⟨z, rfl, rfl⟩ | ⟨z, rfl, rfl⟩
  · obtain ⟨_, rfl, rfl⟩ := h'.resolve_right (fun y => y.1 z)
    rw [hr z]
    exact ⟨rfl, rfl⟩
  · obtain ⟨_, rfl, rfl⟩ := h'.resolve_left (fun y => z y.1)
    exact ⟨hn z, rfl⟩
theorem numOf_of {p a b : Int} (hp : p = 0 ∨ p ∈ primes) (low1 : p = 0 → 0 < b ∧ (a, b) = low a b) (h1 : p ≠ 0 → b = 1 ∧ 0 ≤ a ∧ a < p) : ∃ r n, NumOf p r n a b := by
  by_cases c : p = 0
  · obtain ⟨hb, e⟩ := low1 c
    rw [low_rat (by omega)] at e
    exact ⟨Rat.divInt a b, 0, .inl ⟨c, congrArg Prod.fst e, congrArg Prod.snd e⟩⟩
  · obtain ⟨rfl, h0, h2⟩ := h1 c
    exact ⟨0, a, .inr ⟨c, (Int.emod_eq_of_lt h0 h2).symm, rfl⟩⟩
theorem numOf_pos {p : Int} {r : Rat} {n u v : Int} (h : NumOf p r n u v) : 0 < v := by
  rcases h with ⟨_, _, rfl⟩ | ⟨_, _, rfl⟩
  · have := r.den_pos
    omega
  · decide
theorem rat_nd (r : Rat) : Rat.divInt r.num (r.den : Int) = r := Rat.num_divInt_den r
theorem den_ne (r : Rat) : (r.den : Int) ≠ 0 := by have := r.den_pos; omega
theorem numOf_num {p A B u v : Int} {r : Rat} {n : Int} (hp : p = 0 ∨ p ∈ primes) (h : IsNum p A B u v) (h0 : p = 0 → B ≠ 0 ∧ Rat.divInt A B = r) (h1 : p ≠ 0 → ∀ u, (u * B - A) % p = 0 → u % p = n % p) : NumOf p r n u v := by
  by_cases c : p = 0
  · obtain ⟨hB, e⟩ := h0 c
    have e2 := (h.resolve_left (fun z => by omega)).2
    rw [low_rat hB, e] at e2
    exact .inl ⟨c, congrArg Prod.fst e2, congrArg Prod.snd e2⟩
  · have hp2 := prime_pos (hp.resolve_left c)
    obtain ⟨g0, e1, l1, u1, m1⟩ := h.resolve_right (fun z => by omega)
    refine .inr ⟨c, ?_, e1⟩
    rw [← h1 c u m1, Int.emod_eq_of_lt l1 u1]
theorem mod_of_sub {p u A : Int} (h : (u * 1 - A) % p = 0) : u % p = A % p := by
  rw [Int.mul_one] at h
  exact Int.emod_eq_emod_iff_emod_sub_eq_zero.mpr h
section
variable {p : Int} {r r' : Rat} {n n' a b a' b' u v : Int}
theorem numOf_plus (hp : p = 0 ∨ p ∈ primes) (x : NumOf p r n a b) (y : NumOf p r' n' a' b') (h : IsNum p (a * b' + a' * b) (b * b') u v) : NumOf p (r + r') (n + n') u v := by
  refine numOf_num hp h (fun c => ?_) (fun c w m => ?_)
  · obtain ⟨_, rfl, rfl⟩ := x.resolve_right (fun z => z.1 c)
    obtain ⟨_, rfl, rfl⟩ := y.resolve_right (fun z => z.1 c)
    refine ⟨Int.mul_ne_zero (den_ne r) (den_ne r'), ?_⟩
    rw [← Rat.divInt_add_divInt _ _ (den_ne r) (den_ne r'), rat_nd, rat_nd]
  · obtain ⟨_, rfl, rfl⟩ := x.resolve_left (fun z => c z.1)
    obtain ⟨_, rfl, rfl⟩ := y.resolve_left (fun z => c z.1)
    rw [mod_of_sub m, Int.mul_one, Int.mul_one, ← Int.add_emod]
theorem numOf_minus (hp : p = 0 ∨ p ∈ primes) (x : NumOf p r n a b) (y : NumOf p r' n' a' b') (h : IsNum p (a * b' - a' * b) (b * b') u v) : NumOf p (r - r') (n - n') u v := by
  refine numOf_num hp h (fun c => ?_) (fun c w m => ?_)
  · obtain ⟨_, rfl, rfl⟩ := x.resolve_right (fun z => z.1 c)
    obtain ⟨_, rfl, rfl⟩ := y.resolve_right (fun z => z.1 c)
    refine ⟨Int.mul_ne_zero (den_ne r) (den_ne r'), ?_⟩
    rw [← Rat.divInt_sub_divInt _ _ (den_ne r) (den_ne r'), rat_nd, rat_nd]
  · obtain ⟨_, rfl, rfl⟩ := x.resolve_left (fun z => c z.1)
    obtain ⟨_, rfl, rfl⟩ := y.resolve_left (fun z => c z.1)
    rw [mod_of_sub m, Int.mul_one, Int.mul_one, ← Int.sub_emod]
theorem numOf_times (hp : p = 0 ∨ p ∈ primes) (x : NumOf p r n a b) (y : NumOf p r' n' a' b') (h : IsNum p (a * a') (b * b') u v) : NumOf p (r * r') (n * n') u v := by
  refine numOf_num hp h (fun c => ?_) (fun c w m => ?_)
  · obtain ⟨_, rfl, rfl⟩ := x.resolve_right (fun z => z.1 c)
    obtain ⟨_, rfl, rfl⟩ := y.resolve_right (fun z => z.1 c)
    refine ⟨Int.mul_ne_zero (den_ne r) (den_ne r'), ?_⟩
    rw [← Rat.divInt_mul_divInt, rat_nd, rat_nd]
  · obtain ⟨_, rfl, rfl⟩ := x.resolve_left (fun z => c z.1)
    obtain ⟨_, rfl, rfl⟩ := y.resolve_left (fun z => c z.1)
    rw [mod_of_sub m, ← Int.mul_emod]
theorem numOf_over (hp : p = 0 ∨ p ∈ primes) (x : NumOf p r n a b) (y : NumOf p r' n' a' b') (h : IsNum p (a * b') (b * a') u v) (ha : a' ≠ 0) : NumOf p (r / r') u u v ∧ (p ≠ 0 → (u * n' - n) % p = 0) := by
  by_cases c : p = 0
  · refine ⟨?_, fun z => absurd c z⟩
    obtain ⟨_, rfl, rfl⟩ := x.resolve_right (fun z => z.1 c)
    obtain ⟨_, rfl, rfl⟩ := y.resolve_right (fun z => z.1 c)
    refine numOf_num hp h (fun _ => ⟨Int.mul_ne_zero (den_ne r) ha, ?_⟩) (fun z => absurd c z)
    rw [← Rat.divInt_mul_divInt, rat_nd, ← Rat.inv_divInt, rat_nd, Rat.div_def]
  · have hp2 := prime_pos (hp.resolve_left c)
    obtain ⟨g0, e1, l1, u1, m1⟩ := h.resolve_right (fun z => by omega)
    obtain ⟨_, rfl, rfl⟩ := x.resolve_left (fun z => c z.1)
    obtain ⟨_, rfl, rfl⟩ := y.resolve_left (fun z => c z.1)
    refine ⟨.inr ⟨c, (Int.emod_eq_of_lt l1 u1).symm, e1⟩, fun _ => ?_⟩
    rw [Int.one_mul, Int.mul_one] at m1
    have e := Int.emod_eq_emod_iff_emod_sub_eq_zero.mpr m1
    refine Int.emod_eq_emod_iff_emod_sub_eq_zero.mp ?_
    rw [Int.mul_emod, Int.emod_emod] at e
    rw [Int.mul_emod]
    exact e.trans (Int.emod_emod _ _)
theorem pow_emod (n p : Int) : ∀ k : Nat, (n % p) ^ k % p = n ^ k % p
  | 0 => by rw [Int.pow_zero, Int.pow_zero]
  | k + 1 => by rw [Int.pow_succ, Int.pow_succ, Int.mul_emod, pow_emod n p k, Int.emod_emod, ← Int.mul_emod]
theorem divInt_pow (r : Rat) : ∀ k : Nat, Rat.divInt (r.num ^ k) ((r.den : Int) ^ k) = r ^ k
  | 0 => by rw [Int.pow_zero, Int.pow_zero, Rat.pow_zero]; rfl
  | k + 1 => by rw [Int.pow_succ, Int.pow_succ, ← Rat.divInt_mul_divInt, divInt_pow r k, rat_nd, Rat.pow_succ]
theorem numOf_pow {k : Nat} (hp : p = 0 ∨ p ∈ primes) (x : NumOf p r n a b) (h : IsNum p (a ^ k) (b ^ k) u v) : NumOf p (r ^ k) (n ^ k) u v := by
  refine numOf_num hp h (fun c => ?_) (fun c w m => ?_)
  · obtain ⟨_, rfl, rfl⟩ := x.resolve_right (fun z => z.1 c)
    exact ⟨Int.pow_ne_zero (den_ne r), divInt_pow r k⟩
  · obtain ⟨_, rfl, rfl⟩ := x.resolve_left (fun z => c z.1)
    rw [Int.one_pow] at m
    rw [mod_of_sub m, pow_emod]
theorem num_le {p A B u v : Int} (hp : p = 0 ∨ p ∈ primes) (h : IsNum p A B u v) {M : Nat} (hM : 31 ≤ M) (ha : A.natAbs ≤ M) (hb : B.natAbs ≤ M) : u.natAbs ≤ M ∧ v.natAbs ≤ M := by
  rcases h with ⟨h0, rfl, h1, h2, _⟩ | ⟨_, h⟩
  · have := prime_pos (hp.resolve_left (by omega))
    omega
  · have := low_small h
    omega
theorem cancel {c n : Int} (hp : p ∈ primes) (hn : n % p ≠ 0) (h : (c * n) % p = 0) : c % p = 0 := by
  have hp2 := prime_pos hp
  obtain ⟨k, _, _, e⟩ := inv_ex hp (Int.emod_nonneg n (by omega)) (Int.emod_lt_of_pos n (by omega)) hn
  have d1 := Int.dvd_of_emod_eq_zero h
  have d2 : p ∣ k * n - 1 := by
    refine Int.dvd_of_emod_eq_zero (Int.emod_eq_emod_iff_emod_sub_eq_zero.mp ?_)
    rw [Int.mul_emod, Int.emod_emod, ← Int.mul_emod] at e
    rw [e]
    exact (Int.emod_eq_of_lt (by decide) (by omega)).symm
  refine Int.emod_eq_zero_of_dvd ?_
  have e2 : c = k * (c * n) - c * (k * n - 1) := by grind
  rw [e2]
  exact Int.dvd_sub (Int.dvd_mul_of_dvd_right d1) (Int.dvd_mul_of_dvd_right d2)
end
end T

namespace T
open PySem PySem.Spec PyProof.Rows L2
def SameBut (a : Addr) (H H' : Hp) : Prop := ∀ b o, b ≠ a → H b = some o → H' b = some o
theorem SameBut.refl (a : Addr) (H : Hp) : SameBut a H H := fun _ _ _ h => h
theorem SameBut.trans {a : Addr} {H H1 H2 : Hp} (x : SameBut a H H1) (y : SameBut a H1 H2) : SameBut a H H2 := fun b o n h => y b o n (x b o n h)
theorem SameBut.upd {a : Addr} {H : Hp} {o : HO} : SameBut a H (upd H a o) := fun b u n h => by rw [upd_ne n]; exact h
theorem SameBut.new {a p : Addr} {H : Hp} {o : HO} (h : H p = none) : SameBut a H (L2.upd H p o) := fun b u n e => by rw [upd_ne (ne_of_none e h)]; exact e
theorem Same.but {a : Addr} {H H' : Hp} (h : Same H H') : SameBut a H H' := fun b o _ e => h b o e
theorem same_upd {H : Hp} {p : Addr} {o : HO} (h : H p = none) : Same H (upd H p o) := fun b x e => by
  rw [upd_ne (ne_of_none e h)]
  exact e
theorem upd_self {H : Hp} {a : Addr} {o : HO} (h : H a = some o) : upd H a o = H := by
  funext b
  unfold upd
  by_cases e : b = a
  · rw [if_pos e, e, h]
  · rw [if_neg e]
theorem Same.mut {H H' : Hp} {p : Addr} {o : HO} (e : Same H H') (h : H p = none) : Same H (upd H' p o) := fun a u ha => by
  rw [upd_ne (ne_of_none ha h)]
  exact e a u ha
theorem map_int_get {ns : List Int} {i : Nat} {y : V} (hi : (ns.map V.int)[i]? = some y) : ∃ z, ns[i]? = some z ∧ y = V.int z := by
  rw [List.getElem?_map] at hi
  cases e : ns[i]? with
  | none =>
    rw [e] at hi
    cases hi
  | some z =>
    rw [e] at hi
    exact ⟨z, rfl, (Option.some.inj hi).symm⟩
theorem small_of {n : Nat} (h : n ≤ 100000) : n < sizeLine := Nat.lt_of_le_of_lt h (by decide)
structure ErrC (K : PySem.W.Frag) (mg : Str → Option Value) (x : Str) (C : Addr) : Prop where
  gc : mg x = some (.ref C)
  xC : PySem.W.excIn K C [.type "ValueError", .type "Exception", .type "BaseException", .type "object"] "ValueError.__new__" = true
  kc : PySem.W.keepIn K (.ref C) = true
  bc : PySem.W.subIn K (.ref C) (.type "BaseException") = some true
  tc : PySem.W.typeIn K (.ref C) = some (.type "type")
/-- a def whose defaults stand somewhere (called with all its arguments) -/
structure FunA (K : PySem.W.Frag) (x qual : Str) (st : Stmt) (f : Addr) (fd : FuncData) : Prop where
  ex : ∃ (oc : Value) (od : Option Addr) (dV kV doc pm : Value) (an : Option Addr) (cdv ct : Value) (osl : Array (Option Value)),
    fd = PySem.W.fnOf x qual (defArgs st) (defBody st) (defScope st) dV kV doc pm an cdv ct ∧ K.lookup f = some ⟨oc, od, .func fd, osl⟩ ∧ PySem.W.codeIn K cdv qual = true
  kp : PySem.W.keepIn K (.ref f) = true
section
variable {P : Program} {w : World} {K : PySem.W.Frag} {mg : Str → Option Value} {base : Heap}
theorem FunA.okX {x qual : Str} {st : Stmt} {f : Addr} {fd : FuncData} {N ps : List Str} {k : Nat} {sp : Sp} (F : FunA K x qual st f fd) (S : FnScope N ps (defScope st)) (len : ∀ vs H Q E, sp vs H Q E → vs.length = ps.length)
    (hbody : ∀ (cdv : Value) (A : Around) (outer : List Env) (s : Shared) (H : Hp) (vs : List V) (Q : VK) (E : XK), Room k (A.deeper (envOfC qual (defScope st) s.heap.objs.size f cdv)) → sp vs H Q E →
      ∃ t, PSs (cxOf (L2.CX P w) P w K mg base N qual (defScope st) f cdv A outer s H E) (defBody st) t ∧ t { nx := fun _ H' => Q .non H', rt := Q } (start N vs) H) : FnOk P w K mg base (L2.CX P w) (k + 1) f fd ps sp := by
  obtain ⟨oc, od, dV, kV, doc, pm, an, cdv, ct, osl, rfl, lk, hcd⟩ := F.ex
  exact fn_of lk hcd S len fun A outer s H vs Q E hr hsp => hbody cdv A outer s H vs Q E hr hsp
end
theorem if_pos_of {b : Bool} {A B : Prop} (h : b = true) (x : A) : if b = true then A else B := by
  rw [if_pos h]
  exact x
theorem if_neg_of {b : Bool} {A B : Prop} (h : ¬ b = true) (x : B) : if b = true then A else B := by
  rw [if_neg h]
  exact x
theorem sqT_same {K : PySem.W.Frag} {H H' : Hp} {a : Addr} {xs : List V} (e : Same H H') (h : SqT K H a xs) : SqT K H' a xs := by
  rcases h with (h | ⟨o, h⟩) | h
  · exact .inl (.inl (e _ _ h))
  · exact .inl (.inr ⟨o, e _ _ h⟩)
  · exact .inr h
section
variable {P : Program} {w : World} {K : PySem.W.Frag} {mg : Str → Option Value} {base : Heap}
theorem room64 {k : Nat} {A : Around} (hr : Room k A) : A.units + 64 < cLine := by have := hr.un; omega
theorem room65 {k : Nat} {A : Around} (hr : Room k A) : A.units + 65 < cLine := by have := hr.un; omega
theorem inV_primes {p : Int} : inV (.int p) [.int 2, .int 3, .int 5, .int 7, .int 11, .int 13, .int 17, .int 19, .int 23, .int 29, .int 31] = inV (.int p) (primes.map V.int) := rfl
end
theorem sqT_but {K : PySem.W.Frag} {H H' : Hp} {r a : Addr} {xs : List V} (e : SameBut r H H') (n : a ≠ r) (h : SqT K H a xs) : SqT K H' a xs := by
  rcases h with (h | ⟨o, h⟩) | h
  · exact .inl (.inl (e _ _ n h))
  · exact .inl (.inr ⟨o, e _ _ n h⟩)
  · exact .inr h
theorem at_tab {xs : List Int} {i : Int} (h0 : 0 ≤ i) (h1 : i < xs.length) : atI (xs.map V.int) i = some (.int (xs.getD i.toNat 0)) := by
  obtain ⟨n, rfl⟩ := Int.eq_ofNat_of_zero_le h0
  have hn : n < xs.length := by omega
  refine atI_nat ?_
  rw [List.getElem?_map, List.getElem?_eq_getElem hn, List.getD_eq_getElem?_getD, show ((n : Nat) : Int).toNat = n from rfl, List.getElem?_eq_getElem hn]
  rfl
theorem mod_lt8 (n : Int) {m : Int} (h : 0 < m) : 0 ≤ n % m ∧ n % m < m := ⟨Int.emod_nonneg _ (by omega), Int.emod_lt_of_pos _ h⟩
def wtab : List Int := [0, 0, 0, 2, 3, 5, 7, 31]
theorem wtab_in : ∀ k : Nat, k < 8 → wtab.getD k 0 = 0 ∨ (wtab.getD k 0 ≠ 0 ∧ inV (.int (wtab.getD k 0)) (primes.map V.int) = true ∧ 2 ≤ wtab.getD k 0) := by decide
/-! ### isinstance of the error that an except suite holds -/
def rIsE' (K : PySem.W.Frag) (cls : Value) (d : Option Addr) (a : Addr) : List V → Hp → VK → Prop := fun xs H Q => ∃ D : Addr, cls = .ref D ∧ d = none ∧ ExcC K D ∧ rIsE K D a xs H Q
theorem call_isE' {X : Cx} {a : Addr} {oe : Obj} {pn : List (Addr × Obj)} {cls : Value} {d : Option Addr} (hz : Zc cls d oe) (hf : ∃ vs, oe.data = .fields vs) : CallR (X.suite a ((a, oe) :: pn)) (.builtin "isinstance") (rIsE' X.K cls d a) := by
  intro pins s σ H xs us Q I r h
  obtain ⟨D, rfl, rfl, C, h⟩ := h
  exact call_isE C hz hf pins s σ H xs us Q I r h
theorem pe_indexK {X : Cx} {K : PySem.W.Frag} {o e : Expr} {to : TE} {t : TA} {apos cpos : Pos} (hK : X.K = K) (ho : PE X o to) (ha : PA X [e] t)
    (hb : attributeBase o "index" X.env (eval o X.env) = eval o X.env := by rfl)
    (hf : ((backTo cpos (starEach [e] X.env)).all (fun x => !x.1) && (backToKw cpos (keywordEach [] X.env)).all (fun x => x.1.isSome) && decide ([e].length + ([] : List Keyword).length + (if ([] : List Keyword).isEmpty then 0 else 1) < 30)) = true := by rfl)
    (hl : (apos.endLine == cpos.line) = true := by rfl) (hs : starEach [e] X.env = (false, eval e X.env) :: starEach [] X.env := by rfl) (hp : (backTo cpos (starEach [] X.env)).any (·.1) = false := by rfl) :
    PE X (.Call (.Attribute o "index" apos) [e] [] cpos) (tBM K "list" (rIndex K) to t) := by
  subst hK
  exact pe_bm PySem.F.plainAttrs_list PySem.F.slot_list_index PySem.F.type_list_index mt_index ho ha hb hf hl hs hp
/-! ### values without depth -/
inductive Val1 (H : Hp) : V → PyData → Prop
  | non : Val1 H .non .none
  | bl (b : Bool) : Val1 H (.bl b) (.bool b)
  | str (x : Str) : Val1 H (.str x) (.str x)
  | pair {t : Addr} {u v : Int} : H t = some (.tup [.int u, .int v]) → Val1 H (.ref t) (.tuple [.int u, .int v])
theorem Val1.dp {K : PySem.W.Frag} {H : Hp} {x : V} {d : PyData} (h : Val1 H x d) : Dp K H x d := by
  cases h with
  | non => exact .non
  | bl b => exact .bl b
  | str x => exact .str x
  | pair h => exact .tup (.inl (.inl h)) (.cons (.int _) (.cons (.int _) .nil))
theorem Val1.but {H H' : Hp} {D : Addr} {ys : List V} {x : V} {d : PyData} (s : SameBut D H H') (hD : H D = some (.lst ys)) (h : Val1 H x d) : Val1 H' x d := by
  cases h with
  | non => exact .non
  | bl b => exact .bl b
  | str x => exact .str x
  | pair h => exact .pair (s _ _ (ne_of h hD (fun z => nomatch z)) h)
theorem Val1.same {H H' : Hp} {x : V} {d : PyData} (s : Same H H') (h : Val1 H x d) : Val1 H' x d := by
  cases h with
  | non => exact .non
  | bl b => exact .bl b
  | str x => exact .str x
  | pair h => exact .pair (s _ _ h)
theorem vals1_dp {K : PySem.W.Frag} {H : Hp} : ∀ {xs : List V} {ds : List PyData}, Paired (Val1 H) xs ds → DpAll K H xs ds
  | _, _, .nil => .nil
  | _, _, .cons a b => .cons a.dp (vals1_dp b)
theorem paired_snoc {α β : Type} {F : α → β → Prop} {a : α} {b : β} (h : F a b) : ∀ {l : List α} {m : List β}, Paired F l m → Paired F (l ++ [a]) (m ++ [b])
  | _, _, .nil => .cons h .nil
  | _, _, .cons x y => .cons x (paired_snoc h y)

/-- the first def of a class -/
def inCls : Stmt → Stmt
  | .ClassDef _ _ _ body _ _ _ _ _ _ _ => body.getD 0 (.Pass ⟨0, 0, 0, 0⟩)
  | s => s
theorem pt_truthK {X : Cx} {K : PySem.W.Frag} {a : Expr} {ta : TE} (hK : X.K = K) (ha : PE X a ta) (he : ∀ whole, isTrue a X.env whole = (do let v ← whole; standAt a.pos; holding [v] (truthy v))) :
    PT X a (fun σ H Q => ta σ H fun x H' => ∃ k, TruV K x H' k ∧ Q k H') := by
  subst hK
  exact pt_truth ha he
theorem op_in_seqK {X : Cx} {K : PySem.W.Frag} (hK : X.K = K) : OpR X (compareOp .In) (rIn K false) := by
  subst hK
  exact op_in_seq
theorem op_notIn_seqK {X : Cx} {K : PySem.W.Frag} (hK : X.K = K) : OpR X (compareOp .NotIn) (rIn K true) := by
  subst hK
  exact op_notIn_seq
theorem pi_listK {X : Cx} {K : PySem.W.Frag} {tg e : Expr} {te : TE} (hK : X.K = K) (he : PE X e te) : PI X tg e (iList K te) := by
  subst hK
  exact pi_list he

def topS (i : Nat) : Stmt := PySem.Challenge.pw_threadworth_k02_whole_numbers_reckon_rig.main.body.getD i (.Pass ⟨0, 0, 0, 0⟩)
abbrev s_is_world : Stmt := topS 14
theorem sc_is_world : FnScope ["world", "p", "d"] ["world"] (defScope s_is_world) := ⟨rfl, rfl, rfl, by decide +kernel, rfl, by decide +kernel, by decide +kernel⟩
abbrev s_check_world : Stmt := topS 15
theorem sc_check_world : FnScope ["world"] ["world"] (defScope s_check_world) := ⟨rfl, rfl, rfl, by decide +kernel, rfl, by decide +kernel, by decide +kernel⟩
abbrev s_is_number : Stmt := topS 16
theorem sc_is_number : FnScope ["world", "x", "p", "_", "a", "b"] ["world", "x"] (defScope s_is_number) := ⟨rfl, rfl, rfl, by decide +kernel, rfl, by decide +kernel, by decide +kernel⟩
abbrev s_check_number : Stmt := topS 17
theorem sc_check_number : FnScope ["world", "x"] ["world", "x"] (defScope s_check_number) := ⟨rfl, rfl, rfl, by decide +kernel, rfl, by decide +kernel, by decide +kernel⟩
abbrev s_number : Stmt := topS 18
theorem sc_number : FnScope ["world", "a", "b", "p", "_"] ["world", "a", "b"] (defScope s_number) := ⟨rfl, rfl, rfl, by decide +kernel, rfl, by decide +kernel, by decide +kernel⟩
abbrev s_lowest_ : Stmt := topS 19
theorem sc_lowest_ : FnScope ["a", "b", "shared"] ["a", "b"] (defScope s_lowest_) := ⟨rfl, rfl, rfl, by decide +kernel, rfl, by decide +kernel, by decide +kernel⟩
abbrev s_inverse_ : Stmt := topS 20
theorem sc_inverse_ : FnScope ["p", "b", "rest", "found"] ["p", "b"] (defScope s_inverse_) := ⟨rfl, rfl, rfl, by decide +kernel, rfl, by decide +kernel, by decide +kernel⟩
abbrev s_check_two_ : Stmt := topS 21
theorem sc_check_two_ : FnScope ["world", "x", "y"] ["world", "x", "y"] (defScope s_check_two_) := ⟨rfl, rfl, rfl, by decide +kernel, rfl, by decide +kernel, by decide +kernel⟩
abbrev s_plus : Stmt := topS 22
theorem sc_plus : FnScope ["world", "x", "y"] ["world", "x", "y"] (defScope s_plus) := ⟨rfl, rfl, rfl, by decide +kernel, rfl, by decide +kernel, by decide +kernel⟩
abbrev s_minus : Stmt := topS 23
theorem sc_minus : FnScope ["world", "x", "y"] ["world", "x", "y"] (defScope s_minus) := ⟨rfl, rfl, rfl, by decide +kernel, rfl, by decide +kernel, by decide +kernel⟩
abbrev s_times : Stmt := topS 24
theorem sc_times : FnScope ["world", "x", "y"] ["world", "x", "y"] (defScope s_times) := ⟨rfl, rfl, rfl, by decide +kernel, rfl, by decide +kernel, by decide +kernel⟩
abbrev s_over : Stmt := topS 25
theorem sc_over : FnScope ["world", "x", "y"] ["world", "x", "y"] (defScope s_over) := ⟨rfl, rfl, rfl, by decide +kernel, rfl, by decide +kernel, by decide +kernel⟩
abbrev s_power : Stmt := topS 26
theorem sc_power : FnScope ["world", "x", "count", "found", "_"] ["world", "x", "count"] (defScope s_power) := ⟨rfl, rfl, rfl, by decide +kernel, rfl, by decide +kernel, by decide +kernel⟩
abbrev s_loop_worth : Stmt := topS 27
theorem sc_loop_worth : FnScope ["world"] ["world"] (defScope s_loop_worth) := ⟨rfl, rfl, rfl, by decide +kernel, rfl, by decide +kernel, by decide +kernel⟩
abbrev s_number_text : Stmt := topS 28
theorem sc_number_text : FnScope ["world", "x", "a", "b"] ["world", "x"] (defScope s_number_text) := ⟨rfl, rfl, rfl, by decide +kernel, rfl, by decide +kernel, by decide +kernel⟩
abbrev s_integer_text_ : Stmt := topS 29
theorem sc_integer_text_ : FnScope ["k", "rest", "chunks", "low", "sign"] ["k"] (defScope s_integer_text_) := ⟨rfl, rfl, rfl, by decide +kernel, rfl, by decide +kernel, by decide +kernel⟩
abbrev s_read_number : Stmt := topS 30
theorem sc_read_number : FnScope ["world", "text", "word"] ["world", "text"] (defScope s_read_number) := ⟨rfl, rfl, rfl, by decide +kernel, rfl, by decide +kernel, by decide +kernel⟩
abbrev s_figure_count_ : Stmt := topS 31
theorem sc_figure_count_ : FnScope ["word"] ["word"] (defScope s_figure_count_) := ⟨rfl, rfl, rfl, by decide +kernel, rfl, by decide +kernel, by decide +kernel⟩
abbrev s_read_any_number : Stmt := topS 32
theorem sc_read_any_number : FnScope ["world", "text", "words", "x", "word"] ["world", "text"] (defScope s_read_any_number) := ⟨rfl, rfl, rfl, by decide +kernel, rfl, by decide +kernel, by decide +kernel⟩
abbrev s_is_integer_ : Stmt := topS 33
theorem sc_is_integer_ : FnScope ["word", "figures"] ["word"] (defScope s_is_integer_) := ⟨rfl, rfl, rfl, by decide +kernel, rfl, by decide +kernel, by decide +kernel⟩
abbrev s_integer_of_ : Stmt := topS 34
theorem sc_integer_of_ : FnScope ["word", "figures", "first", "found", "at"] ["word"] (defScope s_integer_of_) := ⟨rfl, rfl, rfl, by decide +kernel, rfl, by decide +kernel, by decide +kernel⟩
abbrev s_law_plain : Stmt := topS 36
theorem sc_law_plain : FnScope ["cell"] ["cell"] (defScope s_law_plain) := ⟨rfl, rfl, rfl, by decide +kernel, rfl, by decide +kernel, by decide +kernel⟩
abbrev s_law_draws : Stmt := topS 37
theorem sc_law_draws : FnScope ["script", "draws", "cell", "rest", "k", "once", "twice"] ["script"] (defScope s_law_draws) := ⟨rfl, rfl, rfl, by decide +kernel, rfl, by decide +kernel, by decide +kernel⟩
abbrev s_law_next : Stmt := topS 38
theorem sc_law_next : FnScope ["draws"] ["draws"] (defScope s_law_next) := ⟨rfl, rfl, rfl, by decide +kernel, rfl, by decide +kernel, by decide +kernel⟩
abbrev s_law_world : Stmt := topS 39
theorem sc_law_world : FnScope ["draws", "p"] ["draws"] (defScope s_law_world) := ⟨rfl, rfl, rfl, by decide +kernel, rfl, by decide +kernel, by decide +kernel⟩
abbrev s_law_lowest : Stmt := topS 40
theorem sc_law_lowest : FnScope ["a", "b", "one", "other", "j"] ["a", "b"] (defScope s_law_lowest) := ⟨rfl, rfl, rfl, by decide +kernel, rfl, by decide +kernel, by decide +kernel⟩
abbrev s_law_made : Stmt := topS 41
theorem sc_law_made : FnScope ["p", "a", "b", "x"] ["p", "a", "b"] (defScope s_law_made) := ⟨rfl, rfl, rfl, by decide +kernel, rfl, by decide +kernel, by decide +kernel⟩
abbrev s_law_number : Stmt := topS 42
theorem sc_law_number : FnScope ["draws", "world"] ["draws", "world"] (defScope s_law_number) := ⟨rfl, rfl, rfl, by decide +kernel, rfl, by decide +kernel, by decide +kernel⟩
abbrev s_law : Stmt := topS 43
theorem sc_law : FnScope ["script", "draws", "world", "x", "y", "z", "one", "two", "text", "due"] ["script"] (defScope s_law) := ⟨rfl, rfl, rfl, by decide +kernel, rfl, by decide +kernel, by decide +kernel⟩
abbrev s_Malformed_init : Stmt := inCls (topS 6)
theorem sc_Malformed_init : FnScope ["self", "at"] ["self", "at"] (defScope s_Malformed_init) := ⟨rfl, rfl, rfl, by decide +kernel, rfl, by decide +kernel, by decide +kernel⟩
structure SmL (n k : Nat) (D : PyData) : Prop where
  lay : D.canLay0 = true
  dep : D.depth ≤ n
  sho : D.showable = true
  wgt : wt D ≤ k
theorem smL_all {n k : Nat} : ∀ {ds : List PyData}, (∀ D ∈ ds, SmL n k D) → PyData.canLayAll0 ds = true ∧ PyData.depthAll ds ≤ n ∧ PyData.showableAll ds = true ∧ wtAll ds ≤ (k + 2) * ds.length
  | [], _ => ⟨by simp [PyData.canLayAll0], by simp [PyData.depthAll], by simp [PyData.showableAll], by simp [wtAll]⟩
  | D :: ds, h => by
    obtain ⟨h1, h2, h3, h4⟩ := smL_all (ds := ds) fun E hE => h E (List.mem_cons_of_mem _ hE)
    have g := h D List.mem_cons_self
    refine ⟨by simp [PyData.canLayAll0, g.lay, h1], ?_, by simp [PyData.showableAll, g.sho, h3], ?_⟩
    · simp only [PyData.depthAll]
      have := g.dep
      omega
    · simp only [wtAll, List.length_cons, Nat.mul_add]
      have := g.wgt
      omega
theorem smL_list {n k : Nat} {ds : List PyData} (h : ∀ D ∈ ds, SmL n k D) : SmL (n + 1) ((k + 2) * ds.length + 3) (.list ds) := by
  obtain ⟨h1, h2, h3, h4⟩ := smL_all h
  exact ⟨by simp [PyData.canLay0, h1], by simp only [PyData.depth]; omega, by simp [PyData.showable, h3], by simp only [wt]; omega⟩
theorem smL_tuple {n k : Nat} {ds : List PyData} (h : ∀ D ∈ ds, SmL n k D) : SmL (n + 1) ((k + 2) * ds.length + 3) (.tuple ds) := by
  obtain ⟨h1, h2, h3, h4⟩ := smL_all h
  exact ⟨by simp [PyData.canLay0, h1], by simp only [PyData.depth]; omega, by simp [PyData.showable, h3], by simp only [wt]; omega⟩
theorem SmL.shaped {n k : Nat} {D : PyData} (h : SmL n k D) (hn : n ≤ 64) : SeqAt.shaped D = true := by
  show (PyData.canLay0 D && decide (PyData.depth D ≤ 64)) = true
  rw [h.lay, decide_eq_true (Nat.le_trans h.dep hn)]
  rfl
theorem SmL.wide {n k : Nat} {D : PyData} (h : SmL n k D) (hk : k ≤ 16777216) : wt D ≤ sizeLine := by
  rw [sizeLine_eq]
  exact Nat.le_trans h.wgt hk
theorem small_log {i : Int} (h : i.natAbs < 2 ^ 200) : i.natAbs.log2 < 1920 := by
  by_cases e : i.natAbs = 0
  · rw [e]
    decide
  · exact (Nat.log2_lt e).mpr (Nat.lt_of_lt_of_le h (Nat.pow_le_pow_right (by decide) (by decide)))
theorem smL_int {i : Int} (h : i.natAbs < 2 ^ 200) : SmL 0 1921 (.int i) := ⟨by simp [PyData.canLay0], by simp [PyData.depth], by simp [PyData.showable, small_log h], by simp only [wt]; omega⟩
theorem smL_pair {u v : Int} (hu : u.natAbs < 2 ^ 200) (hv : v.natAbs < 2 ^ 200) : SmL 1 4000 (.tuple [.int u, .int v]) := by
  have h := smL_tuple (ds := [.int u, .int v]) (n := 0) (k := 1921) fun D hD => by
    rcases List.mem_cons.mp hD with rfl | hD
    · exact smL_int hu
    · rcases List.mem_cons.mp hD with rfl | hD
      · exact smL_int hv
      · cases hD
  exact ⟨h.lay, h.dep, h.sho, Nat.le_trans h.wgt (by show (1921 + 2) * 2 + 3 ≤ 4000; decide)⟩
theorem ok_n : PyData.strOk ("!n" : Str) = true := by decide +kernel
theorem ok_b : PyData.strOk ("!b" : Str) = true := by decide +kernel
theorem ok_w : PyData.strOk ("!w" : Str) = true := by decide +kernel
theorem rl_n : (reprText ("!n" : Str)).length = 4 := by decide +kernel
theorem rl_b : (reprText ("!b" : Str)).length = 4 := by decide +kernel
theorem rl_w : (reprText ("!w" : Str)).length = 4 := by decide +kernel
theorem smL_n : SmL 1 4000 (.str "!n") := ⟨by simp [PyData.canLay0, ok_n], by simp [PyData.depth], by simp [PyData.showable], by simp only [wt, rl_n]; omega⟩
theorem smL_b : SmL 1 4000 (.str "!b") := ⟨by simp [PyData.canLay0, ok_b], by simp [PyData.depth], by simp [PyData.showable], by simp only [wt, rl_b]; omega⟩
theorem smL_w : SmL 1 4000 (.str "!w") := ⟨by simp [PyData.canLay0, ok_w], by simp [PyData.depth], by simp [PyData.showable], by simp only [wt, rl_w]; omega⟩
theorem smL_non : SmL 1 4000 .none := ⟨by simp [PyData.canLay0], by simp [PyData.depth], by simp [PyData.showable], by simp only [wt]; omega⟩
theorem smL_bool (b : Bool) : SmL 1 4000 (.bool b) := ⟨by simp [PyData.canLay0], by simp [PyData.depth], by simp [PyData.showable], by simp only [wt]; omega⟩

section
variable {P : Program} {w : World} {K : PySem.W.Frag} {mg : Str → Option Value} {base : Heap}
/-! ### is_world -/
def spIsWorld (K : PySem.W.Frag) : Sp := fun vs H Q _ => ∃ (a : Addr) (p d : Int), vs = [.ref a] ∧ SqT K H a [.int p, .int d] ∧ Q (.bl (isW p d)) H
theorem ok_is_world {f : Addr} {fd : FuncData} {aP : Addr} (F : Fun K "is_world" "is_world" s_is_world f fd) (m_PRIMES : mg "PRIMES" = some (.ref aP)) (tP : ∀ H, SqT K H aP (primes.map V.int)) :
    FnOk P w K mg base CX0 1 f fd ["world"] (spIsWorld K) := by
  have r_PRIMES : RelV (.ref aP) (.ref aP) := rfl
  refine F.ok sc_is_world (fun vs H Q E h => ?_) (fun cdv A outer s H vs Q E hr h => ?_)
  · obtain ⟨a, p, d, rfl, _⟩ := h
    rfl
  · obtain ⟨a, p, d, rfl, hS, q⟩ := h
    refine ⟨_, (pss_cons (ps_asg (pv 0) (pg_tup rfl (pgs_cons (pg_name (i := 1) sc_is_world.nd rfl (.inl rfl)) (pgs_cons (pg_name (i := 2) sc_is_world.nd rfl (.inl rfl)) pgs_nil))))
  (pss_cons (ps_if (pt_cmpR op_eq (pv 1) pe_int (nomark _)) (pss_one (ps_ret (pe_chain op_le op_le (pe_un un_neg pe_int) (pv 2) pe_int))) pss_nil)
  (pss_one (ps_ret (pe_and (pe_cmpR op_in_seq (pv 1) (pe_glob rfl m_PRIMES r_PRIMES) (by with_unfolding_all rfl)) (pe_one (pe_chain op_le op_lt pe_int (pv 2) (pv 1)))))))), ?_⟩
    refine ⟨_, rfl, a, _, rfl, hS, rfl, _, _, rfl, _, _, rfl, rfl, ?_⟩
    refine ⟨_, rfl, rfl, _, rfl, ite2 (fun e => ?_) (fun e => ?_)⟩
    · have e0 : p = 0 := V.int.inj (of_decide_eq_true e)
      have ew : isW p d = if -20 ≤ d then decide (d ≤ 20) else false := if_pos e0
      rw [ew] at q
      refine ⟨_, rfl, _, rfl, _, _, rfl, rfl, _, rfl, ite2 (fun e1 => ?_) (fun e1 => ?_)⟩
      · rw [if_pos (of_decide_eq_true e1)] at q
        exact ⟨_, _, rfl, rfl, q⟩
      · rw [if_neg (fun z => e1 (decide_eq_true z))] at q
        exact q
    · have e0 : p ≠ 0 := fun z => e (decide_eq_true (congrArg V.int z))
      have ew : isW p d = (if inV (.int p) (primes.map V.int) = true then (if 0 ≤ d then decide (d < p) else false) else false) := if_neg e0
      rw [ew] at q
      refine ⟨_, rfl, aP, _, rfl, .inr (tP _), rfl, by decide, _, rfl, ite2 (fun e1 => ?_) (fun e1 => ?_)⟩
      · have e1' : inV (.int p) (primes.map V.int) = true := e1
        rw [if_pos e1'] at q
        refine ⟨_, rfl, _, _, rfl, rfl, _, rfl, ite2 (fun e2 => ?_) (fun e2 => ?_)⟩
        · rw [if_pos (of_decide_eq_true e2)] at q
          exact ⟨_, rfl, _, _, rfl, rfl, q⟩
        · rw [if_neg (fun z => e2 (decide_eq_true z))] at q
          exact q
      · have e1' : ¬ inV (.int p) (primes.map V.int) = true := e1
        rw [if_neg e1'] at q
        have e2 : inV (.int p) (primes.map V.int) = false := Bool.eq_false_iff.mpr e1'
        exact q
end

section
variable {P : Program} {w : World} {K : PySem.W.Frag} {mg : Str → Option Value} {base : Heap}
/-! ### _law_plain -/
def spPlain : Sp := fun vs H Q _ => ∃ n : Int, vs = [.int n] ∧ Q (.int (if n < 0 then -n else n)) H
theorem ok_plain {f : Addr} {fd : FuncData} (F : Fun K "_law_plain" "_law_plain" s_law_plain f fd) : FnOk P w K mg base CX0 1 f fd ["cell"] spPlain := by
  refine F.ok sc_law_plain (fun vs H Q E h => ?_) (fun cdv A outer s H vs Q E hr h => ?_)
  · obtain ⟨n, rfl, _⟩ := h
    rfl
  · obtain ⟨n, rfl, q⟩ := h
    refine ⟨_, (pss_cons (ps_if (pt_cmpR op_lt (pv 0) pe_int (nomark _)) (pss_one (ps_ret (pe_op op_sub pe_int (pv 0)))) pss_nil)
  (pss_one (ps_ret (pv 0))))
    , ?_⟩
    refine ⟨_, rfl, _, _, rfl, rfl, _, rfl, ite2 (fun e => ?_) (fun e => ?_)⟩
    · rw [if_pos (of_decide_eq_true e)] at q
      have q' : Q (.int (0 - n)) H := by
        rw [show (0 : Int) - n = -n by omega]
        exact q
      exact ⟨_, rfl, _, _, rfl, rfl, q'⟩
    · rw [if_neg (fun z => e (decide_eq_true z))] at q
      exact ⟨_, rfl, q⟩
end

section
variable {P : Program} {w : World} {K : PySem.W.Frag} {mg : Str → Option Value} {base : Heap}
/-! ### _law_next -/
def spNext : Sp := fun vs H Q _ => ∃ (a : Addr) (ds : List Int), vs = [.ref a] ∧ H a = some (.lst (ds.map V.int)) ∧ ∀ (n : Int) (ds' : List Int), Q (.int n) (upd H a (.lst (ds'.map V.int)))
theorem ok_next {f : Addr} {fd : FuncData} (F : Fun K "_law_next" "_law_next" s_law_next f fd) : FnOk P w K mg base CX0 1 f fd ["draws"] spNext := by
  refine F.ok sc_law_next (fun vs H Q E h => ?_) (fun cdv A outer s H vs Q E hr h => ?_)
  · obtain ⟨a, ds, rfl, _⟩ := h
    rfl
  · obtain ⟨a, ds, rfl, hL, q⟩ := h
    refine ⟨_, (pss_cons (ps_if (pt_truth (pv 0) (by intro _; rfl)) (pss_one (ps_ret (pe_bm0 PySem.F.plainAttrs_list PySem.F.slot_list_pop PySem.F.type_list_pop mt_pop (pv 0)))) pss_nil)
  (pss_one (ps_ret pe_int)))
    , ?_⟩
    refine ⟨_, rfl, _, .inl ⟨_, .inl (.inl hL), rfl⟩, ite2 (fun e => ?_) (fun e => ?_)⟩
    · have hn : ds ≠ [] := fun z => by subst z; cases e
      have hm : ds.map V.int = ds.dropLast.map V.int ++ [V.int (ds.getLast hn)] := by
        rw [← List.map_singleton, ← List.map_append, List.dropLast_concat_getLast]
      refine ⟨_, rfl, .inl ⟨rfl, _, .inl (.inl hL)⟩, a, _, .int (ds.getLast hn), rfl, rfl, hL, ?_, ?_⟩
      · rw [hm]; simp
      · rw [hm, List.dropLast_concat]
        exact q _ _
    · have := q 0 ds
      rw [upd_self hL] at this
      exact this
end

section
variable {P : Program} {w : World} {K : PySem.W.Frag} {mg : Str → Option Value} {base : Heap}
/-! ### _law_draws -/
def spDraws (K : PySem.W.Frag) : Sp := fun vs H Q _ => ∃ (a : Addr) (ns : List Int), vs = [.ref a] ∧ SqL K H a (ns.map V.int) ∧ ns.length ≤ 63 ∧
  ∀ H' r (ds : List Int), Same H H' → H r = none → H' r = some (.lst (ds.map V.int)) → Q (.ref r) H'
theorem ok_draws {f : Addr} {fd : FuncData} {a_law_plain : Addr} {fd_law_plain : FuncData} (F : Fun K "_law_draws" "_law_draws" s_law_draws f fd) (z_range : mg "range" = none) (z_int : mg "int" = none)
    (G_law_plain : FnOk P w K mg base CX0 1 a_law_plain fd_law_plain ["cell"] spPlain) (g_law_plain : mg "_law_plain" = some (.ref a_law_plain)) (k_law_plain : PySem.W.keepIn K (.ref a_law_plain) = true) (b_law_plain : Binds K fd_law_plain ["cell"] []) :
    FnOk P w K mg base CX0 2 f fd ["script"] (spDraws K) := by
  refine F.ok sc_law_draws (fun vs H Q E h => ?_) (fun cdv A outer s H vs Q E hr h => ?_)
  · obtain ⟨n, _, rfl, _⟩ := h
    rfl
  · obtain ⟨a, ns, rfl, hS, hlen, q⟩ := h
    refine ⟨_, (pss_cons (ps_set (i := 1) sc_law_draws.nd rfl (.inl rfl) (pe_lst pa_nil))
  (pss_cons (ps_for PassesOwn.never rfl (pi_list (pv 0)) (pg_name (i := 2) sc_law_draws.nd rfl (.inl rfl)) (pss_cons (ps_set (i := 3) sc_law_draws.nd rfl (.inl rfl) (pe_call G_law_plain (hr.mono (by decide)) rfl g_law_plain k_law_plain b_law_plain .nil pass0 (pa_cons (pv 2) pa_nil)))
  (pss_one (ps_if (pt_cmpR op_ge (pv 3) pe_int (nomark _)) (pss_one (ps_for PassesOwn.never rfl (pi_range1 rfl z_range (pa_cons pe_int pa_nil)) (pg_name (i := 4) sc_law_draws.nd rfl (.inl rfl)) (pss_cons (ps_if (pt_cmpR op_eq (pv 3) pe_int (nomark _)) (pss_one ps_break) pss_nil)
  (pss_cons (ps_expr (pe_bm PySem.F.plainAttrs_list PySem.F.slot_list_append PySem.F.type_list_append mt_append (pv 1) (pa_cons (pe_op op_mod (pe_callTy call_int1 (by rfl) z_int boot_int (pa_cons (pv 3) pa_nil)) pe_int) pa_nil)))
  (pss_one (ps_set (i := 3) sc_law_draws.nd rfl (.inl rfl) (pe_op op_fdiv (pv 3) pe_int))))))) (pss_cons (ps_set (i := 5) sc_law_draws.nd rfl (.inl rfl) (pe_op op_mod (pe_callTy call_int1 (by rfl) z_int boot_int (pa_cons (pe_op op_add (pe_op op_mul (pv 3) pe_int) pe_int) pa_nil)) pe_int))
  (pss_cons (ps_set (i := 6) sc_law_draws.nd rfl (.inl rfl) (pe_op op_mod (pe_callTy call_int1 (by rfl) z_int boot_int (pa_cons (pe_op op_add (pe_op op_mul (pv 5) pe_int) (pv 3)) pa_nil)) pe_int))
  (pss_one (ps_expr (pe_bm PySem.F.plainAttrs_list PySem.F.slot_list_extend PySem.F.type_list_extend mt_extend (pv 1) (pa_cons (pe_lst (pa_cons (pe_op op_mod (pe_callTy call_int1 (by rfl) z_int boot_int (pa_cons (pv 3) pa_nil)) pe_int) (pa_cons (pe_op op_mod (pe_callTy call_int1 (by rfl) z_int boot_int (pa_cons (pv 5) pa_nil)) pe_int) (pa_cons (pe_op op_mod (pe_callTy call_int1 (by rfl) z_int boot_int (pa_cons (pv 6) pa_nil)) pe_int) pa_nil)))) pa_nil))))))))))
  (pss_one (ps_ret (pv 1)))))
    , ?_⟩
    refine ⟨Nat.zero_le _, fun o no => ?_⟩
    have s1 : Same H (upd H o (.lst [])) := same_upd no
    refine ⟨.ref a, rfl, a, rfl, ⟨_, s1.seq hS⟩, for_list (K := K) (a := a) (xs := ns.map V.int) (fun i σ H' => ∃ v2 v3 v4 v5 v6 ds, σ = [some (.ref a), some (.ref o), v2, v3, v4, v5, v6] ∧ Same H H' ∧ H' o = some (.lst (ds.map V.int)) ∧ ds.length ≤ 60 * i)
      ⟨none, none, none, none, none, [], rfl, s1, upd_same, Nat.le_refl _⟩ (fun i σ H' _ ⟨_, _, _, _, _, _, _, sm, _⟩ => sm.seq hS) ?_ ?_⟩
    · rintro i y σ H1 hi ⟨v2, v3, v4, v5, v6, ds, rfl, sm, hL, hl⟩
      have hi63 : i < 63 := by
        have := (List.getElem?_eq_some_iff.mp hi).1
        rw [List.length_map] at this
        omega
      obtain ⟨z, hz, rfl⟩ := map_int_get hi
      refine ⟨_, rfl, z, rfl, ?_⟩
      generalize hr0 : (if z < 0 then -z else z) = r0
      have h0 : 0 ≤ r0 := by
        subst hr0
        split <;> omega
      refine ⟨_, rfl, _, _, rfl, rfl, _, rfl, ite2 (fun e => ?_) (fun e => ?_)⟩
      · refine ⟨60, rfl, by decide, by decide, for_range (lo := 0) (n := 60) (fun j σ H' => ∃ r v4 ds', σ = [some (.ref a), some (.ref o), some (.int z), some (.int r), v4, v5, v6] ∧ 0 ≤ r ∧ Same H H' ∧ H' o = some (.lst (ds'.map V.int)) ∧ ds'.length ≤ 60 * i + j)
          ⟨r0, v4, ds, rfl, h0, sm, hL, hl⟩ ?_ ?_⟩
        · rintro j σ H2 hj ⟨r, v4', ds', rfl, hr0', sm2, hL2, hl2⟩
          refine ⟨_, rfl, rfl, _, rfl, ite2 (fun e1 => ?_) (fun e1 => ?_)⟩
          · exact ⟨_, _, _, _, _, ds', rfl, sm2, hL2, by omega⟩
          · refine ⟨.ref o, rfl, .inl ⟨rfl, _, .inl (.inl hL2)⟩, .int r, rfl, .inl ⟨r, rfl, r, 1000, rfl, rfl, (show (0:Int) < 1000 by decide), o, _, _, rfl, rfl, hL2, ?_, ?_⟩⟩
            · rw [List.length_map]
              exact small_of (by omega)
            · refine ⟨_, rfl, r, 1000, rfl, rfl, ⟨by decide, by decide⟩, ?_⟩
              refine ⟨r / 1000, _, ds' ++ [r % 1000], rfl, by omega, Same.mut sm2 no, ?_, ?_⟩
              · rw [upd_same, List.map_append]
                rfl
              · rw [List.length_append]
                show ds'.length + 1 ≤ _
                omega
        · rintro σ H2 ⟨r, v4', ds', rfl, hr0', sm2, hL2, hl2⟩
          exact ⟨_, _, _, _, _, ds', rfl, sm2, hL2, by omega⟩
      · have c1 : CMul r0 48271 := .inr ⟨by decide, by decide⟩
        refine ⟨.int r0, rfl, r0, 48271, rfl, rfl, c1, _, 11, rfl, rfl, .inl ⟨_, rfl, _, 2147483647, rfl, rfl, (show (0:Int) < 2147483647 by decide), ?_⟩⟩
        have c2 : ∀ x : Int, CMul x 69621 := fun _ => .inr ⟨by decide, by decide⟩
        refine ⟨_, rfl, _, 69621, rfl, rfl, c2 _, .int r0, rfl, _, r0, rfl, rfl, .inl ⟨_, rfl, _, 2147483629, rfl, rfl, (show (0:Int) < 2147483629 by decide), ?_⟩⟩
        have p1000 : (0:Int) < 1000 := by decide
        refine ⟨.ref o, rfl, .inl ⟨rfl, _, .inl (.inl hL)⟩, ?_⟩
        refine ⟨.int r0, rfl, .inl ⟨r0, rfl, r0, 1000, rfl, rfl, p1000, _, rfl, .inl ⟨_, rfl, _, 1000, rfl, rfl, p1000, _, rfl, .inl ⟨_, rfl, _, 1000, rfl, rfl, p1000, ?_⟩⟩⟩⟩
        refine ⟨(by show 3 ≤ sizeLine; decide), fun c nc => ?_⟩
        have hoc : o ≠ c := ne_of_none hL nc
        refine ⟨o, c, ds.map V.int, _, rfl, rfl, ?_, upd_same, ?_, ?_⟩
        · rw [upd_ne hoc]
          exact hL
        · rw [List.length_map]
          exact Nat.le_of_lt (small_of (show ds.length + 3 ≤ 100000 by omega))
        · refine ⟨_, _, _, _, _, ds ++ [r0 % 1000, (r0 * 48271 + 11) % 2147483647 % 1000, ((r0 * 48271 + 11) % 2147483647 * 69621 + r0) % 2147483629 % 1000], rfl, Same.mut (Same.trans sm (same_upd nc)) no, ?_, ?_⟩
          · rw [upd_same, List.map_append]
            rfl
          · rw [List.length_append]
            show ds.length + 3 ≤ _
            omega
    · rintro σ H1 ⟨v2, v3, v4, v5, v6, ds, rfl, sm, hL, hl⟩
      exact ⟨_, rfl, q H1 o ds sm no hL⟩
end

section
variable {P : Program} {w : World} {K : PySem.W.Frag} {mg : Str → Option Value} {base : Heap}
/-! ### check_world -/
def spCheckWorld (K : PySem.W.Frag) (CW : Addr) : Sp := fun vs H Q E => ∃ (a : Addr) (p d : Int), vs = [.ref a] ∧ SqT K H a [.int p, .int d] ∧ (isW p d = true → Q .non H) ∧ (isW p d = false → E (.ref CW) none H)
theorem ok_check_world {f CW a_is_world : Addr} {fd fd_is_world : FuncData} (F : Fun K "check_world" "check_world" s_check_world f fd) (T : ErrC K mg "NotWorld" CW)
    (G_is_world : FnOk P w K mg base CX0 1 a_is_world fd_is_world ["world"] (spIsWorld K)) (g_is_world : mg "is_world" = some (.ref a_is_world)) (k_is_world : PySem.W.keepIn K (.ref a_is_world) = true) (b_is_world : Binds K fd_is_world ["world"] []) :
    FnOk P w K mg base (L2.CX P w) 2 f fd ["world"] (spCheckWorld K CW) := by
  obtain ⟨gc_NotWorld, x_NotWorld, kc_NotWorld, bc_NotWorld, tc_NotWorld⟩ := T
  refine F.okX sc_check_world (fun vs H Q E h => ?_) (fun cdv A outer s H vs Q E hr h => ?_)
  · obtain ⟨a, p, d, rfl, _⟩ := h
    rfl
  · obtain ⟨a, p, d, rfl, hS, q1, q2⟩ := h
    refine ⟨_, (pss_one (ps_if (pt_not (pt_val (pe_call G_is_world (hr.mono (by decide)) rfl g_is_world k_is_world b_is_world .nil pass0 (pa_cons (pv 0) pa_nil)))) (pss_one (ps_raise rfl (takes_of rfl rfl rfl rfl) (pmk_own PySem.F.excBase_ValueError x_NotWorld gc_NotWorld kc_NotWorld (raises_own bc_NotWorld tc_NotWorld) rfl))) pss_nil))
    , ?_⟩
    refine ⟨_, rfl, a, p, d, rfl, hS, _, rfl, ?_⟩
    cases e : isW p d with
    | true => exact iteF (q1 e)
    | false => exact iteT (q2 e)
end

section
variable {P : Program} {w : World} {K : PySem.W.Frag} {mg : Str → Option Value} {base : Heap}
/-! ### is_number -/
def isN (p u v : Int) : Bool := if p = 0 then (if 1 ≤ v then decide (gI u v = 1) else false) else (if v = 1 then (if 0 ≤ u then decide (u < p) else false) else false)
def spIsNumber (K : PySem.W.Frag) (CW : Addr) : Sp := fun vs H Q E => ∃ (a x : Addr) (p d u v : Int), vs = [.ref a, .ref x] ∧ SqT K H a [.int p, .int d] ∧ SqT K H x [.int u, .int v] ∧ (isW p d = true → Q (.bl (isN p u v)) H) ∧ (isW p d = false → E (.ref CW) none H)
theorem ok_is_number {f CW a_check_world : Addr} {fd fd_check_world : FuncData} (F : Fun K "is_number" "is_number" s_is_number f fd) (m_gcd : mg "gcd" = some (.builtin "math.gcd"))
    (G_check_world : FnOk P w K mg base (L2.CX P w) 2 a_check_world fd_check_world ["world"] (spCheckWorld K CW)) (g_check_world : mg "check_world" = some (.ref a_check_world)) (k_check_world : PySem.W.keepIn K (.ref a_check_world) = true) (b_check_world : Binds K fd_check_world ["world"] []) :
    FnOk P w K mg base (L2.CX P w) 3 f fd ["world", "x"] (spIsNumber K CW) := by
  refine F.okX sc_is_number (fun vs H Q E h => ?_) (fun cdv A outer s H vs Q E hr h => ?_)
  · obtain ⟨a, x, p, d, u, v, rfl, _⟩ := h
    rfl
  · obtain ⟨a, x, p, d, u, v, rfl, hS, hX, q1, q2⟩ := h
    refine ⟨_, (pss_cons (ps_expr (pe_call G_check_world (hr.mono (by decide)) rfl g_check_world k_check_world b_check_world .nil (passes_call (takes_of rfl rfl rfl rfl) (fun _ _ _ _ h => h)) (pa_cons (pv 0) pa_nil)))
  (pss_cons (ps_asg (pv 0) (pg_tup rfl (pgs_cons (pg_name (i := 2) sc_is_number.nd rfl (.inl rfl)) (pgs_cons (pg_name (i := 3) sc_is_number.nd rfl (.inl rfl)) pgs_nil))))
  (pss_cons (ps_asg (pv 1) (pg_tup rfl (pgs_cons (pg_name (i := 4) sc_is_number.nd rfl (.inl rfl)) (pgs_cons (pg_name (i := 5) sc_is_number.nd rfl (.inl rfl)) pgs_nil))))
  (pss_cons (ps_if (pt_cmpR op_eq (pv 2) pe_int (nomark _)) (pss_one (ps_ret (pe_and (pe_cmpR op_ge (pv 5) pe_int (nomark _)) (pe_one (pe_cmpR op_eq (pe_callBfun cr_gcd rfl m_gcd (pa_cons (pv 4) (pa_cons (pv 5) pa_nil))) pe_int (nomark _)))))) pss_nil)
  (pss_one (ps_ret (pe_and (pe_cmpR op_eq (pv 5) pe_int (nomark _)) (pe_one (pe_chain op_le op_lt pe_int (pv 4) (pv 2))))))))))
    , ?_⟩
    refine ⟨_, rfl, a, p, d, rfl, hS, fun ew => ?_, q2⟩
    have q := q1 ew
    refine ⟨_, rfl, a, _, rfl, hS, rfl, _, _, rfl, _, _, rfl, rfl, ?_⟩
    refine ⟨_, rfl, x, _, rfl, hX, rfl, _, _, rfl, _, _, rfl, rfl, ?_⟩
    refine ⟨_, rfl, rfl, _, rfl, ite2 (fun e => ?_) (fun e => ?_)⟩
    · have e0 : p = 0 := V.int.inj (of_decide_eq_true e)
      have ew : isN p u v = if 1 ≤ v then decide (gI u v = 1) else false := if_pos e0
      rw [ew] at q
      refine ⟨_, rfl, _, _, rfl, rfl, _, rfl, ite2 (fun e1 => ?_) (fun e1 => ?_)⟩
      · rw [if_pos (of_decide_eq_true e1)] at q
        have q' : Q (.bl (decide (V.int (gI u v) = V.int 1))) H := by
          rw [show decide (V.int (gI u v) = V.int 1) = decide (gI u v = 1) from decide_eq_decide.mpr ⟨V.int.inj, congrArg V.int⟩]
          exact q
        exact ⟨_, rfl, _, rfl, u, v, rfl, rfl, q'⟩
      · rw [if_neg (fun z => e1 (decide_eq_true z))] at q
        exact q
    · have e0 : p ≠ 0 := fun z => e (decide_eq_true (congrArg V.int z))
      have ew : isN p u v = (if v = 1 then (if 0 ≤ u then decide (u < p) else false) else false) := if_neg e0
      rw [ew] at q
      refine ⟨_, rfl, rfl, _, rfl, ite2 (fun e1 => ?_) (fun e1 => ?_)⟩
      · rw [if_pos (V.int.inj (of_decide_eq_true e1))] at q
        refine ⟨_, rfl, _, _, rfl, rfl, _, rfl, ite2 (fun e2 => ?_) (fun e2 => ?_)⟩
        · rw [if_pos (of_decide_eq_true e2)] at q
          exact ⟨_, rfl, _, _, rfl, rfl, q⟩
        · rw [if_neg (fun z => e2 (decide_eq_true z))] at q
          exact q
      · rw [if_neg (fun z => e1 (decide_eq_true (congrArg V.int z)))] at q
        exact q
end

section
variable {P : Program} {w : World} {K : PySem.W.Frag} {mg : Str → Option Value} {base : Heap}
/-! ### check_number -/
def spCheckNumber (K : PySem.W.Frag) (CW CN : Addr) : Sp := fun vs H Q E => ∃ (a x : Addr) (p d u v : Int), vs = [.ref a, .ref x] ∧ SqT K H a [.int p, .int d] ∧ SqT K H x [.int u, .int v] ∧
  (isW p d = true → isN p u v = true → Q .non H) ∧ (isW p d = true → isN p u v = false → E (.ref CN) none H) ∧ (isW p d = false → E (.ref CW) none H)
theorem ok_check_number {f CW CN a_is_number : Addr} {fd fd_is_number : FuncData} (F : Fun K "check_number" "check_number" s_check_number f fd) (T : ErrC K mg "NotNumber" CN)
    (G_is_number : FnOk P w K mg base (L2.CX P w) 3 a_is_number fd_is_number ["world", "x"] (spIsNumber K CW)) (g_is_number : mg "is_number" = some (.ref a_is_number)) (k_is_number : PySem.W.keepIn K (.ref a_is_number) = true) (b_is_number : Binds K fd_is_number ["world", "x"] []) :
    FnOk P w K mg base (L2.CX P w) 4 f fd ["world", "x"] (spCheckNumber K CW CN) := by
  obtain ⟨gc_NotNumber, x_NotNumber, kc_NotNumber, bc_NotNumber, tc_NotNumber⟩ := T
  refine F.okX sc_check_number (fun vs H Q E h => ?_) (fun cdv A outer s H vs Q E hr h => ?_)
  · obtain ⟨a, x, p, d, u, v, rfl, _⟩ := h
    rfl
  · obtain ⟨a, x, p, d, u, v, rfl, hS, hX, q1, q2, q3⟩ := h
    refine ⟨_, (pss_one (ps_if (pt_not (pt_val (pe_call G_is_number (hr.mono (by decide)) rfl g_is_number k_is_number b_is_number .nil (passes_call (takes_of rfl rfl rfl rfl) (fun _ _ _ _ h => h)) (pa_cons (pv 0) (pa_cons (pv 1) pa_nil))))) (pss_one (ps_raise rfl (takes_of rfl rfl rfl rfl) (pmk_own PySem.F.excBase_ValueError x_NotNumber gc_NotNumber kc_NotNumber (raises_own bc_NotNumber tc_NotNumber) rfl))) pss_nil))
    , ?_⟩
    refine ⟨_, rfl, _, rfl, a, x, p, d, u, v, rfl, hS, hX, fun ew => ?_, q3⟩
    refine ⟨_, rfl, ?_⟩
    cases e : isN p u v with
    | true => exact iteF (q1 ew e)
    | false => exact iteT (q2 ew e)
end

def DivOk (b : Int) : Prop := b.natAbs < 1073741824 ∨ (0 < b ∧ b.natAbs < 2 ^ 200)
theorem cdw {a g : Int} (h0 : 0 < g) (h : g.natAbs < 2 ^ 200) : CDivW a g := by
  refine ⟨h0, Nat.lt_trans ((Nat.log2_lt (by omega)).mpr h) (by decide)⟩
section
variable {P : Program} {w : World} {K : PySem.W.Frag} {mg : Str → Option Value} {base : Heap}
/-! ### _lowest -/
def spLowest : Sp := fun vs H Q _ => ∃ a b : Int, vs = [.int a, .int b] ∧ b ≠ 0 ∧ DivOk b ∧ ∀ r, H r = none → Q (.ref r) (upd H r (.tup [.int (low a b).1, .int (low a b).2]))
theorem ok_lowest {f : Addr} {fd : FuncData} (F : Fun K "_lowest" "_lowest" s_lowest_ f fd) (m_gcd : mg "gcd" = some (.builtin "math.gcd")) : FnOk P w K mg base CX0 1 f fd ["a", "b"] spLowest := by
  refine F.ok sc_lowest_ (fun vs H Q E h => ?_) (fun cdv A outer s H vs Q E hr h => ?_)
  · obtain ⟨a, b, rfl, _⟩ := h
    rfl
  · obtain ⟨a, b, rfl, hb, hl, q⟩ := h
    have hg := gI_pos (a := a) hb
    have hg2 := gI_le (a := a) hb
    refine ⟨_, (pss_cons (ps_set (i := 2) sc_lowest_.nd rfl (.inl rfl) (pe_callBfun cr_gcd rfl m_gcd (pa_cons (pv 0) (pa_cons (pv 1) pa_nil))))
  (pss_cons (ps_if (pt_cmpR op_lt (pv 1) pe_int (nomark _)) (pss_one (ps_set (i := 2) sc_lowest_.nd rfl (.inl rfl) (pe_un un_neg (pv 2)))) pss_nil)
  (pss_one (ps_ret (pe_tup (pa_cons (pe_op (OpR.or op_fdivN op_fdivW) (pv 0) (pv 2)) (pa_cons (pe_op (OpR.or op_fdivN op_fdivW) (pv 1) (pv 2)) pa_nil))))))), ?_⟩
    refine ⟨_, rfl, _, rfl, a, b, rfl, ?_⟩
    refine ⟨_, rfl, _, _, rfl, rfl, _, rfl, ite2 (fun e => ?_) (fun e => ?_)⟩
    · have e0 : b < 0 := of_decide_eq_true e
      have hl1 : b.natAbs < 1073741824 := hl.resolve_right (fun z => by omega)
      have c : CDivN a (-gI a b) := ⟨by omega, by omega⟩
      refine ⟨_, rfl, _, rfl, ?_⟩
      refine ⟨_, rfl, _, rfl, .inl ⟨a, -gI a b, rfl, rfl, c, _, rfl, _, rfl, .inl ⟨b, -gI a b, rfl, rfl, c, (by show 2 ≤ sizeLine; decide), fun r nr => ?_⟩⟩⟩
      have h1 := q r nr
      unfold low at h1
      rw [if_pos e0] at h1
      rw [← fdiv_negg a _ (Int.le_of_lt hg), ← fdiv_negg b _ (Int.le_of_lt hg)] at h1
      exact h1
    · have e0 : ¬ b < 0 := fun z => e (decide_eq_true z)
      have hl2 : b.natAbs < 2 ^ 200 := by
        rcases hl with z | z
        · exact Nat.lt_trans z (by decide)
        · exact z.2
      have c : CDivW a (gI a b) := cdw hg (by omega)
      refine ⟨_, rfl, _, rfl, .inr ⟨a, gI a b, rfl, rfl, c, _, rfl, _, rfl, .inr ⟨b, gI a b, rfl, rfl, c, (by show 2 ≤ sizeLine; decide), fun r nr => ?_⟩⟩⟩
      have h1 := q r nr
      unfold low at h1
      rw [if_neg e0] at h1
      exact h1
end

section
variable {P : Program} {w : World} {K : PySem.W.Frag} {mg : Str → Option Value} {base : Heap}
/-! ### _inverse -/
def spInverse : Sp := fun vs H Q _ => ∃ p b : Int, vs = [.int p, .int b] ∧ p ∈ primes ∧ b % p ≠ 0 ∧ ∀ k, 1 ≤ k → k < p → k * (b % p) % p = 1 → Q (.int k) H
theorem ok_inverse {f : Addr} {fd : FuncData} (F : Fun K "_inverse" "_inverse" s_inverse_ f fd) : FnOk P w K mg base CX0 1 f fd ["p", "b"] spInverse := by
  refine F.ok sc_inverse_ (fun vs H Q E h => ?_) (fun cdv A outer s H vs Q E hr h => ?_)
  · obtain ⟨p, b, rfl, _⟩ := h
    rfl
  · obtain ⟨p, b, rfl, hp, hb, q⟩ := h
    have hp2 := prime_pos hp
    have hpos : 0 < p := by omega
    obtain ⟨i0, i1, i2, ei⟩ := inv_ex hp (Int.emod_nonneg b (by omega)) (Int.emod_lt_of_pos b hpos) hb
    refine ⟨_, (pss_cons (ps_set (i := 2) sc_inverse_.nd rfl (.inl rfl) (pe_op op_mod (pv 1) (pv 0)))
  (pss_cons (ps_set (i := 3) sc_inverse_.nd rfl (.inl rfl) pe_int)
  (pss_cons (ps_while PassesOwn.never (pt_cmpR op_ne (pe_op op_mod (pe_op op_mul (pv 3) (pv 2)) (pv 0)) pe_int (nomark _)) (pss_one (ps_aug (i := 3) sc_inverse_.nd rfl (.inl rfl) pe_int ip_add)))
  (pss_one (ps_ret (pv 3))))))
    , ?_⟩
    refine ⟨_, rfl, _, rfl, b, p, rfl, rfl, hpos, ?_⟩
    refine ⟨fun m σ H' => ∃ k : Int, σ = [some (.int p), some (.int b), some (.int (b % p)), some (.int k)] ∧ H' = H ∧ 1 ≤ k ∧ k ≤ i0 ∧ m = (i0 - k).toNat, ⟨_, 1, rfl, rfl, by omega, i1, rfl⟩, ?_⟩
    rintro m σ H' ⟨k, rfl, rfl, k1, k2, rfl⟩
    have c1 : CMul k (b % p) := .inl ⟨by omega, by omega⟩
    refine ⟨_, rfl, _, rfl, k, b % p, rfl, rfl, c1, _, rfl, _, p, rfl, rfl, hpos, rfl, _, rfl, ?_⟩
    by_cases e : k * (b % p) % p = 1
    · rw [decide_eq_true (congrArg V.int e)]
      exact iteF ⟨_, rfl, q k k1 (by omega) e⟩
    · rw [decide_eq_false (fun z => e (V.int.inj z))]
      have hk : k ≠ i0 := fun z => e (by rw [z]; exact ei)
      exact iteT ⟨_, fun _ _ n => n, _, rfl, _, _, rfl, rfl, _, by omega, k + 1, rfl, rfl, by omega, by omega, rfl⟩
end

section
variable {P : Program} {w : World} {K : PySem.W.Frag} {mg : Str → Option Value} {base : Heap}
/-! ### number -/
def spNumber (K : PySem.W.Frag) (CW CB : Addr) : Sp := fun vs H Q E => ∃ (x : Addr) (p d a b : Int), vs = [.ref x, .int a, .int b] ∧ SqT K H x [.int p, .int d] ∧ DivOk b ∧ (isW p d = false → E (.ref CW) none H) ∧
  (isW p d = true → bad p b → E (.ref CB) none H) ∧ (isW p d = true → ¬ bad p b → ∀ r u v, IsNum p a b u v → H r = none → Q (.ref r) (upd H r (.tup [.int u, .int v])))
theorem ok_number {f CW CB a_check_world a_inverse_ a_lowest_ : Addr} {fd fd_check_world fd_inverse_ fd_lowest_ : FuncData} (F : FunA K "number" "number" s_number f fd) (T : ErrC K mg "BadNumber" CB)
    (G_check_world : FnOk P w K mg base (L2.CX P w) 2 a_check_world fd_check_world ["world"] (spCheckWorld K CW)) (g_check_world : mg "check_world" = some (.ref a_check_world)) (k_check_world : PySem.W.keepIn K (.ref a_check_world) = true) (b_check_world : Binds K fd_check_world ["world"] [])
    (G_inverse_ : FnOk P w K mg base CX0 1 a_inverse_ fd_inverse_ ["p", "b"] spInverse) (g_inverse_ : mg "_inverse" = some (.ref a_inverse_)) (k_inverse_ : PySem.W.keepIn K (.ref a_inverse_) = true) (b_inverse_ : Binds K fd_inverse_ ["p", "b"] [])
    (G_lowest_ : FnOk P w K mg base CX0 1 a_lowest_ fd_lowest_ ["a", "b"] spLowest) (g_lowest_ : mg "_lowest" = some (.ref a_lowest_)) (k_lowest_ : PySem.W.keepIn K (.ref a_lowest_) = true) (b_lowest_ : Binds K fd_lowest_ ["a", "b"] []) :
    FnOk P w K mg base (L2.CX P w) 3 f fd ["world", "a", "b"] (spNumber K CW CB) := by
  obtain ⟨gc_BadNumber, x_BadNumber, kc_BadNumber, bc_BadNumber, tc_BadNumber⟩ := T
  refine F.okX sc_number (fun vs H Q E h => ?_) (fun cdv A outer s H vs Q E hr h => ?_)
  · obtain ⟨x, p, d, a, b, rfl, _⟩ := h
    rfl
  · obtain ⟨x, p, d, a, b, rfl, hS, hl, q1, q2, q3⟩ := h
    refine ⟨_, (pss_cons (ps_expr (pe_call G_check_world (hr.mono (by decide)) rfl g_check_world k_check_world b_check_world .nil (passes_call (takes_of rfl rfl rfl rfl) (fun _ _ _ _ h => h)) (pa_cons (pv 0) pa_nil)))
  (pss_cons (ps_asg (pv 0) (pg_tup rfl (pgs_cons (pg_name (i := 3) sc_number.nd rfl (.inl rfl)) (pgs_cons (pg_name (i := 4) sc_number.nd rfl (.inl rfl)) pgs_nil))))
  (pss_cons (ps_if (pw_or (pt_cmpR op_eq (pv 2) pe_int (nomark _)) (pw_or1 (pw_and (pt_cmpR op_gt (pv 3) pe_int (nomark _)) (pw_and1 (pt_cmpR op_eq (pe_op op_mod (pv 2) (pv 3)) pe_int (nomark _)))).pt)).pt (pss_one (ps_raise rfl (takes_of rfl rfl rfl rfl) (pmk_own PySem.F.excBase_ValueError x_BadNumber gc_BadNumber kc_BadNumber (raises_own bc_BadNumber tc_BadNumber) rfl))) pss_nil)
  (pss_cons (ps_if (pt_cmpR op_gt (pv 3) pe_int (nomark _)) (pss_one (ps_ret (pe_tup (pa_cons (pe_op op_mod (pe_op op_mul (pv 1) (pe_call G_inverse_ (hr.mono (by decide)) rfl g_inverse_ k_inverse_ b_inverse_ .nil pass0 (pa_cons (pv 3) (pa_cons (pv 2) pa_nil)))) (pv 3)) (pa_cons pe_int pa_nil))))) pss_nil)
  (pss_one (ps_ret (pe_call G_lowest_ (hr.mono (by decide)) rfl g_lowest_ k_lowest_ b_lowest_ .nil pass0 (pa_cons (pv 1) (pa_cons (pv 2) pa_nil)))))))))
    , ?_⟩
    refine ⟨_, rfl, x, p, d, rfl, hS, fun ew => ?_, q1⟩
    have r2 := q2 ew
    have r3 := q3 ew
    refine ⟨_, rfl, x, _, rfl, hS, rfl, _, _, rfl, _, _, rfl, rfl, ?_⟩
    by_cases hb0 : b = 0
    · refine ⟨_, rfl, rfl, _, rfl, ?_⟩
      rw [decide_eq_true (congrArg V.int hb0)]
      exact iteT (iteT (r2 (.inl hb0)))
    · refine ⟨_, rfl, rfl, _, rfl, ?_⟩
      rw [decide_eq_false (fun z => hb0 (V.int.inj z))]
      refine iteF ?_
      refine ⟨_, rfl, _, _, rfl, rfl, _, rfl, ?_⟩
      by_cases hp : 0 < p
      · have hpp := (isW_prime ew (by omega)).1
        have hp2 := prime_pos hpp
        rw [decide_eq_true hp]
        refine iteT ⟨_, rfl, _, rfl, b, p, rfl, rfl, hp, rfl, _, rfl, ?_⟩
        by_cases hm : b % p = 0
        · rw [decide_eq_true (congrArg V.int hm)]
          exact iteT (r2 (.inr ⟨hp, hm⟩))
        · rw [decide_eq_false (fun z => hm (V.int.inj z))]
          refine iteF ?_
          refine ⟨_, rfl, _, _, rfl, rfl, _, rfl, ?_⟩
          rw [decide_eq_true hp]
          refine iteT ?_
          refine ⟨_, rfl, _, rfl, _, rfl, p, b, rfl, hpp, hm, fun k k1 k2 ek => ?_⟩
          refine ⟨a, k, rfl, rfl, .inr ⟨by omega, by omega⟩, _, rfl, _, p, rfl, rfl, hp, (by show 2 ≤ sizeLine; decide), fun r nr => ?_⟩
          refine r3 (fun z => ?_) r _ 1 (.inl ⟨hp, rfl, Int.emod_nonneg _ (by omega), Int.emod_lt_of_pos _ hp, inv_solves hp ek (by omega)⟩) nr
          rcases z with z | z
          · exact hb0 z
          · exact hm z.2
      · rw [decide_eq_false hp]
        refine iteF (iteF ?_)
        refine ⟨_, rfl, _, _, rfl, rfl, _, rfl, ?_⟩
        rw [decide_eq_false hp]
        refine iteF ?_
        refine ⟨_, rfl, _, rfl, a, b, rfl, hb0, hl, fun r nr => ?_⟩
        refine r3 (fun z => ?_) r _ _ (.inr ⟨hp, rfl⟩) nr
        rcases z with z | z
        · exact hb0 z
        · exact hp z.1
end

section
variable {P : Program} {w : World} {K : PySem.W.Frag} {mg : Str → Option Value} {base : Heap}
/-! ### loop_worth -/
def spLoopWorth (K : PySem.W.Frag) (CW : Addr) : Sp := fun vs H Q E => ∃ (x : Addr) (p d : Int), vs = [.ref x] ∧ SqT K H x [.int p, .int d] ∧ (isW p d = false → E (.ref CW) none H) ∧ (isW p d = true → ∀ r, H r = none → Q (.ref r) (upd H r (.tup [.int d, .int 1])))
theorem ok_loop_worth {f CW a_check_world : Addr} {fd fd_check_world : FuncData} (F : Fun K "loop_worth" "loop_worth" s_loop_worth f fd)
    (G_check_world : FnOk P w K mg base (L2.CX P w) 2 a_check_world fd_check_world ["world"] (spCheckWorld K CW)) (g_check_world : mg "check_world" = some (.ref a_check_world)) (k_check_world : PySem.W.keepIn K (.ref a_check_world) = true) (b_check_world : Binds K fd_check_world ["world"] []) :
    FnOk P w K mg base (L2.CX P w) 3 f fd ["world"] (spLoopWorth K CW) := by
  refine F.okX sc_loop_worth (fun vs H Q E h => ?_) (fun cdv A outer s H vs Q E hr h => ?_)
  · obtain ⟨x, p, d, rfl, _⟩ := h
    rfl
  · obtain ⟨x, p, d, rfl, hS, q1, q2⟩ := h
    refine ⟨_, (pss_cons (ps_expr (pe_call G_check_world (hr.mono (by decide)) rfl g_check_world k_check_world b_check_world .nil (passes_call (takes_of rfl rfl rfl rfl) (fun _ _ _ _ h => h)) (pa_cons (pv 0) pa_nil)))
  (pss_one (ps_ret (pe_tup (pa_cons (pe_ix ix_tup (pv 0) pe_int (fun _ _ => rfl)) (pa_cons pe_int pa_nil))))))
    , ?_⟩
    refine ⟨_, rfl, x, p, d, rfl, hS, fun ew => ?_, q1⟩
    exact ⟨_, rfl, x, _, 1, .int d, rfl, rfl, hS, atI_nat (j := 1) rfl, (by show 2 ≤ sizeLine; decide), fun r nr => q2 ew r nr⟩
end

section
variable {P : Program} {w : World} {K : PySem.W.Frag} {mg : Str → Option Value} {base : Heap}
/-! ### _law_lowest -/
def spLawLowest : Sp := fun vs H Q _ => ∃ a b : Int, vs = [.int a, .int b] ∧ b ≠ 0 ∧ b.natAbs ≤ 1000000000 ∧ ∀ r, H r = none → Q (.ref r) (upd H r (.tup [.int (low a b).1, .int (low a b).2]))
theorem ok_law_lowest {f : Addr} {fd : FuncData} (F : Fun K "_law_lowest" "_law_lowest" s_law_lowest f fd) (z_range : mg "range" = none) (z_int : mg "int" = none) (z_abs : mg "abs" = none) : FnOk P w K mg base CX0 1 f fd ["a", "b"] spLawLowest := by
  refine F.ok sc_law_lowest (fun vs H Q E h => ?_) (fun cdv A outer s H vs Q E hr h => ?_)
  · obtain ⟨a, b, rfl, _⟩ := h
    rfl
  · obtain ⟨a, b, rfl, hb, hl, q⟩ := h
    have hg := gI_pos (a := a) hb
    have hg2 := gI_le (a := a) hb
    refine ⟨_, (Evl.pss_cut (ps_if (pt_cmpR op_lt (pv 1) pe_int (nomark _)) (pss_cons (ps_set (i := 0) sc_law_lowest.nd rfl (.inl rfl) (pe_op op_sub pe_int (pv 0)))
  (pss_one (ps_set (i := 1) sc_law_lowest.nd rfl (.inl rfl) (pe_op op_sub pe_int (pv 1))))) pss_nil)
  (pss_cons (ps_set (i := 2) sc_law_lowest.nd rfl (.inl rfl) (pe_callB call_abs (by rfl) z_abs boot_abs (pa_cons (pv 0) pa_nil)))
  (pss_cons (ps_set (i := 3) sc_law_lowest.nd rfl (.inl rfl) (pv 1))
  (pss_cons (ps_for PassesOwn.never rfl (pi_range1 rfl z_range (pa_cons (pe_op op_pow pe_int pe_int) pa_nil)) (pg_name (i := 4) sc_law_lowest.nd rfl (.inl rfl)) (pss_cons (ps_if (pt_cmpR op_eq (pv 3) pe_int (nomark _)) (pss_one ps_break) pss_nil)
  (pss_one (ps_par (i := 2) (j := 3) rfl sc_law_lowest.nd rfl rfl (by decide) rfl rfl (pa_cons (pv 3) (pa_cons (pe_op op_mod (pe_callTy call_int1 (by rfl) z_int boot_int (pa_cons (pv 2) pa_nil)) (pv 3)) pa_nil)) (by rfl)))))
  (pss_one (ps_ret (pe_tup (pa_cons (pe_op op_fdiv (pv 0) (pv 2)) (pa_cons (pe_op op_fdiv (pv 1) (pv 2)) pa_nil)))))))))
    , ?_⟩
    refine ⟨fun σ' H' => ∃ a' b' : Int, σ' = [some (.int a'), some (.int b'), none, none, none] ∧ H' = H ∧ 0 < b' ∧ b' ≤ 1000000000 ∧ gI a' b' = gI a b ∧ low a b = (a' / gI a b, b' / gI a b), ?_, ?_⟩
    · refine ⟨_, rfl, _, _, rfl, rfl, _, rfl, ite2 (fun e => ?_) (fun e => ?_)⟩
      · have e0 : b < 0 := of_decide_eq_true e
        refine ⟨_, rfl, _, _, rfl, rfl, _, rfl, _, _, rfl, rfl, 0 - a, 0 - b, rfl, rfl, by omega, by omega, ?_, ?_⟩
        · unfold gI
          rw [show (0 - a).natAbs = a.natAbs by omega, show (0 - b).natAbs = b.natAbs by omega]
        · unfold low
          rw [if_pos e0, show 0 - a = -a by omega, show 0 - b = -b by omega]
      · have e0 : ¬ b < 0 := fun z => e (decide_eq_true z)
        exact ⟨a, b, rfl, rfl, by omega, by omega, rfl, if_neg e0⟩
    · rintro σ' H' ⟨a', b', rfl, rfl, b1, b2, eg, el⟩
      refine ⟨_, rfl, a', rfl, ?_⟩
      refine ⟨_, rfl, ?_⟩
      refine ⟨10, 9, rfl, rfl, ⟨by decide, by decide, by decide⟩, _, rfl, by decide, by decide, for_range (lo := 0) (n := 1000000000) (fun j σ H'' => ∃ (m n : Nat) (v4 : Option V), σ = [some (.int a'), some (.int b'), some (.int (m : Int)), some (.int (n : Int)), v4] ∧ H'' = H' ∧ ((Nat.gcd m n : Nat) : Int) = gI a b ∧ n + j ≤ b'.toNat)
        ⟨a'.natAbs, b'.natAbs, none, ?_, rfl, eg, by omega⟩ ?_ ?_⟩
      · have e1 : (if a' < 0 then -a' else a') = (a'.natAbs : Int) := by split <;> omega
        have e2 : b' = (b'.natAbs : Int) := by omega
        rw [← e1, ← e2]
        rfl
      · rintro j σ H2 hj ⟨m, n, v4, rfl, rfl, e1, e2⟩
        refine ⟨_, rfl, rfl, _, rfl, ite2 (fun e => ?_) (fun e => ?_)⟩
        · have n0 : (n : Int) = 0 := V.int.inj (of_decide_eq_true e)
          have n0' : n = 0 := by omega
          subst n0'
          rw [Nat.gcd_zero_right] at e1
          have c : CDiv a' (m : Int) := ⟨by omega, by omega⟩
          refine ⟨_, rfl, _, rfl, a', m, rfl, rfl, c, _, rfl, _, rfl, b', m, rfl, rfl, c, (by show 2 ≤ sizeLine; decide), fun r nr => ?_⟩
          have h1 := q r nr
          rw [el, ← e1] at h1
          exact h1
        · have n0 : n ≠ 0 := fun z => e (decide_eq_true (congrArg V.int (by rw [z]; rfl)))
          refine ⟨_, rfl, _, rfl, .inl ⟨_, rfl, _, rfl, m, n, rfl, rfl, (show (0 : Int) < n by omega), _, _, rfl, n, m % n, some (.int (0 + (j : Int))), ?_, rfl, ?_, ?_⟩⟩
          · rw [Int.natCast_emod]
            rfl
          · rw [Nat.gcd_comm n (m % n), ← Nat.gcd_rec, Nat.gcd_comm]
            exact e1
          · have := Nat.mod_lt m (show n > 0 by omega)
            omega
      · rintro σ H2 ⟨m, n, v4, rfl, rfl, e1, e2⟩
        have n0' : n = 0 := by omega
        subst n0'
        rw [Nat.gcd_zero_right] at e1
        have c : CDiv a' (m : Int) := ⟨by omega, by omega⟩
        refine ⟨_, rfl, _, rfl, a', m, rfl, rfl, c, _, rfl, _, rfl, b', m, rfl, rfl, c, (by show 2 ≤ sizeLine; decide), fun r nr => ?_⟩
        have h1 := q r nr
        rw [el, ← e1] at h1
        exact h1
end

theorem low_self {u v : Int} (hv : 0 < v) : (low u v = (u, v)) ↔ gI u v = 1 := by
  have hg := gI_pos (a := u) (b := v) (by omega)
  unfold low
  rw [if_neg (by omega)]
  constructor
  · intro h
    have h2 := congrArg Prod.snd h
    have h3 : v / gI u v = v := h2
    by_cases c : gI u v = 1
    · exact c
    · have : v / gI u v < v := Int.ediv_lt_of_lt_mul (by omega) (by
        have : v * 2 ≤ v * gI u v := Int.mul_le_mul_of_nonneg_left (by omega) (by omega)
        omega)
      omega
  · intro h
    rw [h, Int.ediv_one, Int.ediv_one]

section
variable {P : Program} {w : World} {K : PySem.W.Frag} {mg : Str → Option Value} {base : Heap}
/-! ### _law_world -/
def spLawWorld : Sp := fun vs H Q _ => ∃ (a : Addr) (ds : List Int), vs = [.ref a] ∧ H a = some (.lst (ds.map V.int)) ∧
  ∀ (p d : Int) (ds' : List Int) (x : Addr) (H' : Hp), SameBut a H H' → H' a = some (.lst (ds'.map V.int)) → H x = none → H' x = some (.tup [.int p, .int d]) → isW p d = true → Q (.ref x) H'
theorem ok_law_world {f a_law_next : Addr} {fd fd_law_next : FuncData} (F : Fun K "_law_world" "_law_world" s_law_world f fd) (z_int : mg "int" = none)
    (G_law_next : FnOk P w K mg base CX0 1 a_law_next fd_law_next ["draws"] spNext) (g_law_next : mg "_law_next" = some (.ref a_law_next)) (k_law_next : PySem.W.keepIn K (.ref a_law_next) = true) (b_law_next : Binds K fd_law_next ["draws"] []) :
    FnOk P w K mg base CX0 2 f fd ["draws"] spLawWorld := by
  refine F.ok sc_law_world (fun vs H Q E h => ?_) (fun cdv A outer s H vs Q E hr h => ?_)
  · obtain ⟨a, ds, rfl, _⟩ := h
    rfl
  · obtain ⟨a, ds, rfl, hL, q⟩ := h
    refine ⟨_, (pss_cons (ps_set (i := 1) sc_law_world.nd rfl (.inl rfl) (pe_ix ix_list (pe_lst (pa_cons pe_int (pa_cons pe_int (pa_cons pe_int (pa_cons pe_int (pa_cons pe_int (pa_cons pe_int (pa_cons pe_int (pa_cons pe_int pa_nil))))))))) (pe_op op_mod (pe_callTy call_int1 (by rfl) z_int boot_int (pa_cons (pe_call G_law_next (hr.mono (by decide)) rfl g_law_next k_law_next b_law_next .nil pass0 (pa_cons (pv 0) pa_nil)) pa_nil)) pe_int) (fun _ _ => rfl)))
  (pss_cons (ps_if (pt_cmpR op_eq (pv 1) pe_int (nomark _)) (pss_one (ps_ret (pe_tup (pa_cons pe_int (pa_cons (pe_op op_sub (pe_op op_mod (pe_callTy call_int1 (by rfl) z_int boot_int (pa_cons (pe_call G_law_next (hr.mono (by decide)) rfl g_law_next k_law_next b_law_next .nil pass0 (pa_cons (pv 0) pa_nil)) pa_nil)) pe_int) pe_int) pa_nil))))) pss_nil)
  (pss_one (ps_ret (pe_tup (pa_cons (pv 1) (pa_cons (pe_op op_mod (pe_callTy call_int1 (by rfl) z_int boot_int (pa_cons (pe_call G_law_next (hr.mono (by decide)) rfl g_law_next k_law_next b_law_next .nil pass0 (pa_cons (pv 0) pa_nil)) pa_nil)) (pv 1)) pa_nil)))))))
    , ?_⟩
    refine ⟨(by show 8 ≤ sizeLine; decide), fun l nl => ?_⟩
    have hal : a ≠ l := ne_of_none hL nl
    refine ⟨_, rfl, a, ds, rfl, (by rw [upd_ne hal]; exact hL), fun n ds1 => ?_⟩
    have m8 := mod_lt8 n (show (0 : Int) < 8 by decide)
    refine .inl ⟨n, rfl, n, 8, rfl, rfl, (show (0 : Int) < 8 by decide), l, wtab.map V.int, n % 8, .int (wtab.getD (n % 8).toNat 0), rfl, rfl, .inl (.inl (by rw [upd_ne (Ne.symm hal), upd_same]; rfl)), at_tab m8.1 m8.2, ?_⟩
    have hw := wtab_in (n % 8).toNat (by omega)
    generalize wtab.getD (n % 8).toNat 0 = p at hw
    have s1 : SameBut a H (upd (upd H l (.lst [.int 0, .int 0, .int 0, .int 2, .int 3, .int 5, .int 7, .int 31])) a (.lst (ds1.map V.int))) := (SameBut.new nl).trans SameBut.upd
    refine ⟨_, rfl, rfl, _, rfl, ite2 (fun e => ?_) (fun e => ?_)⟩
    · have e0 : p = 0 := V.int.inj (of_decide_eq_true e)
      refine ⟨_, rfl, a, ds1, rfl, upd_same, fun n2 ds2 => ?_⟩
      have m12 := mod_lt8 n2 (show (0 : Int) < 12 by decide)
      refine .inl ⟨n2, rfl, n2, 12, rfl, rfl, (show (0 : Int) < 12 by decide), _, 5, rfl, rfl, (by show 2 ≤ sizeLine; decide), fun r nr => ?_⟩
      have hra : a ≠ r := ne_of_none upd_same nr
      have nr' : H r = none := by
        rw [upd_ne (Ne.symm hra), upd_ne (Ne.symm hra)] at nr
        by_cases c : r = l
        · rw [c, upd_same] at nr
          cases nr
        · rwa [upd_ne c] at nr
      refine q 0 (n2 % 12 - 5) ds2 r _ ((s1.trans SameBut.upd).trans (SameBut.new nr)) (by rw [upd_ne hra, upd_same]) nr' upd_same ?_
      unfold isW
      rw [if_pos rfl, if_pos (by omega)]
      exact decide_eq_true (by omega)
    · have e0 : p ≠ 0 := fun z => e (decide_eq_true (congrArg V.int z))
      obtain ⟨_, hin, h2⟩ := hw.resolve_left e0
      have hpos : 0 < p := by omega
      refine ⟨_, rfl, _, rfl, a, ds1, rfl, upd_same, fun n2 ds2 => ?_⟩
      have mp := mod_lt8 n2 hpos
      refine .inl ⟨n2, rfl, _, rfl, n2, p, rfl, rfl, hpos, (by show 2 ≤ sizeLine; decide), fun r nr => ?_⟩
      have hra : a ≠ r := ne_of_none upd_same nr
      have nr' : H r = none := by
        rw [upd_ne (Ne.symm hra), upd_ne (Ne.symm hra)] at nr
        by_cases c : r = l
        · rw [c, upd_same] at nr
          cases nr
        · rwa [upd_ne c] at nr
      refine q p (n2 % p) ds2 r _ ((s1.trans SameBut.upd).trans (SameBut.new nr)) (by rw [upd_ne hra, upd_same]) nr' upd_same ?_
      unfold isW
      rw [if_neg e0, if_pos hin, if_pos mp.1]
      exact decide_eq_true mp.2
end

theorem low_isN {a b : Int} (hb : b ≠ 0) : isN 0 (low a b).1 (low a b).2 = true := by
  obtain ⟨h1, h2⟩ := low_q (u := (low a b).1) (v := (low a b).2) hb rfl
  have e : low (low a b).1 (low a b).2 = low a b := by
    rw [low_rat (show (low a b).2 ≠ 0 by omega), h1, ← low_rat hb]
  unfold isN
  rw [if_pos rfl, if_pos (by omega)]
  exact decide_eq_true ((low_self h2).mp e)
section
variable {P : Program} {w : World} {K : PySem.W.Frag} {mg : Str → Option Value} {base : Heap}
/-! ### _law_number -/
def spLawNumber (K : PySem.W.Frag) : Sp := fun vs H Q _ => ∃ (r x : Addr) (ds : List Int) (p d : Int), vs = [.ref r, .ref x] ∧ H r = some (.lst (ds.map V.int)) ∧ SqT K H x [.int p, .int d] ∧ r ≠ x ∧ isW p d = true ∧
  ∀ (a b : Int) (ds' : List Int) (y : Addr) (H' : Hp), SameBut r H H' → H' r = some (.lst (ds'.map V.int)) → H y = none → H' y = some (.tup [.int a, .int b]) → isN p a b = true → (p = 0 → a.natAbs ≤ 9) → a.natAbs ≤ 31 → b.natAbs ≤ 4 → (p ≠ 0 → b = 1) → b ≠ 0 → Q (.ref y) H'
theorem ok_law_number {f a_law_next a_law_lowest : Addr} {fd fd_law_next fd_law_lowest : FuncData} (F : Fun K "_law_number" "_law_number" s_law_number f fd) (z_int : mg "int" = none)
    (G_law_next : FnOk P w K mg base CX0 1 a_law_next fd_law_next ["draws"] spNext) (g_law_next : mg "_law_next" = some (.ref a_law_next)) (k_law_next : PySem.W.keepIn K (.ref a_law_next) = true) (b_law_next : Binds K fd_law_next ["draws"] [])
    (G_law_lowest : FnOk P w K mg base CX0 1 a_law_lowest fd_law_lowest ["a", "b"] spLawLowest) (g_law_lowest : mg "_law_lowest" = some (.ref a_law_lowest)) (k_law_lowest : PySem.W.keepIn K (.ref a_law_lowest) = true) (b_law_lowest : Binds K fd_law_lowest ["a", "b"] []) :
    FnOk P w K mg base CX0 2 f fd ["draws", "world"] (spLawNumber K) := by
  refine F.ok sc_law_number (fun vs H Q E h => ?_) (fun cdv A outer s H vs Q E hr h => ?_)
  · obtain ⟨r, x, ds, p, d, rfl, _⟩ := h
    rfl
  · obtain ⟨r, x, ds, p, d, rfl, hL, hx, hrx, ew, q⟩ := h
    refine ⟨_, (pss_cons (ps_if (pt_cmpR op_gt (pe_ix ix_tup (pv 1) pe_int (fun _ _ => rfl)) pe_int (nomark _)) (pss_one (ps_ret (pe_tup (pa_cons (pe_op op_mod (pe_callTy call_int1 (by rfl) z_int boot_int (pa_cons (pe_call G_law_next (hr.mono (by decide)) rfl g_law_next k_law_next b_law_next .nil pass0 (pa_cons (pv 0) pa_nil)) pa_nil)) (pe_ix ix_tup (pv 1) pe_int (fun _ _ => rfl))) (pa_cons pe_int pa_nil))))) pss_nil)
  (pss_one (ps_ret (pe_call G_law_lowest (hr.mono (by decide)) rfl g_law_lowest k_law_lowest b_law_lowest .nil pass0 (pa_cons (pe_op op_sub (pe_op op_mod (pe_callTy call_int1 (by rfl) z_int boot_int (pa_cons (pe_call G_law_next (hr.mono (by decide)) rfl g_law_next k_law_next b_law_next .nil pass0 (pa_cons (pv 0) pa_nil)) pa_nil)) pe_int) pe_int) (pa_cons (pe_op op_add pe_int (pe_op op_mod (pe_callTy call_int1 (by rfl) z_int boot_int (pa_cons (pe_call G_law_next (hr.mono (by decide)) rfl g_law_next k_law_next b_law_next .nil pass0 (pa_cons (pv 0) pa_nil)) pa_nil)) pe_int)) pa_nil)))))), ?_⟩
    refine ⟨_, rfl, x, _, 0, .int p, rfl, rfl, hx, atI_nat (j := 0) rfl, _, _, rfl, rfl, _, rfl, ite2 (fun e => ?_) (fun e => ?_)⟩
    · have hpos : 0 < p := of_decide_eq_true e
      obtain ⟨hpr, _, _⟩ := isW_prime ew (by omega)
      have hp2 := prime_pos hpr
      refine ⟨_, rfl, r, ds, rfl, hL, fun n ds1 => ?_⟩
      have hx1 : SqT K (upd H r (.lst (ds1.map V.int))) x [.int p, .int d] := sqT_but SameBut.upd (Ne.symm hrx) hx
      have m := mod_lt8 n hpos
      refine .inl ⟨n, rfl, _, rfl, x, _, 0, .int p, rfl, rfl, hx1, atI_nat (j := 0) rfl, n, p, rfl, rfl, hpos, (by show 2 ≤ sizeLine; decide), fun y ny => ?_⟩
      have hry : r ≠ y := ne_of_none upd_same ny
      have ny' : H y = none := by rwa [upd_ne (Ne.symm hry)] at ny
      refine q (n % p) 1 ds1 y _ (SameBut.upd.trans (SameBut.new ny)) (by rw [upd_ne hry, upd_same]) ny' upd_same ?_ (fun z => by omega) (by omega) (by decide) (fun _ => rfl) (by decide)
      unfold isN
      rw [if_neg (by omega), if_pos rfl, if_pos m.1]
      exact decide_eq_true m.2
    · have hpz : p = 0 := by
        have h0 : ¬ 0 < p := fun z => e (decide_eq_true z)
        by_cases c : p = 0
        · exact c
        · have := prime_pos (isW_prime ew c).1
          omega
      refine ⟨_, rfl, r, ds, rfl, hL, fun n ds1 => ?_⟩
      refine .inl ⟨n, rfl, n, 19, rfl, rfl, (show (0 : Int) < 19 by decide), _, 9, rfl, rfl, ?_⟩
      refine ⟨_, rfl, r, ds1, rfl, upd_same, fun n2 ds2 => ?_⟩
      have m1 := mod_lt8 n (show (0 : Int) < 19 by decide)
      have m2 := mod_lt8 n2 (show (0 : Int) < 4 by decide)
      refine .inl ⟨n2, rfl, n2, 4, rfl, rfl, (show (0 : Int) < 4 by decide), 1, _, rfl, rfl, _, _, rfl, (show 1 + n2 % 4 ≠ 0 by omega), (show (1 + n2 % 4).natAbs ≤ 1000000000 by omega), fun y ny => ?_⟩
      have hry : r ≠ y := ne_of_none upd_same ny
      have ny' : H y = none := by rwa [upd_ne (Ne.symm hry), upd_ne (Ne.symm hry)] at ny
      have sm := low_small (u := (low (n % 19 - 9) (1 + n2 % 4)).1) (v := (low (n % 19 - 9) (1 + n2 % 4)).2) rfl
      have cr := low_cross (u := (low (n % 19 - 9) (1 + n2 % 4)).1) (v := (low (n % 19 - 9) (1 + n2 % 4)).2) (show 1 + n2 % 4 ≠ 0 by omega) rfl
      refine q _ _ ds2 y _ ((SameBut.upd.trans SameBut.upd).trans (SameBut.new ny)) (by rw [upd_ne hry, upd_same]) ny' upd_same ?_ (fun _ => by omega) (by omega) (by omega) (fun z => absurd hpz z) (by omega)
      rw [hpz]
      exact low_isN (by omega)
end

section
variable {P : Program} {w : World} {K : PySem.W.Frag} {mg : Str → Option Value} {base : Heap}
/-! ### _check_two -/
def spCheckTwo (K : PySem.W.Frag) (CW CN : Addr) : Sp := fun vs H Q E => ∃ (x y z : Addr) (p d a b a' b' : Int), vs = [.ref x, .ref y, .ref z] ∧ SqT K H x [.int p, .int d] ∧ SqT K H y [.int a, .int b] ∧ SqT K H z [.int a', .int b'] ∧
  (isW p d = false → E (.ref CW) none H) ∧ (isW p d = true → (isN p a b = false ∨ isN p a' b' = false) → E (.ref CN) none H) ∧ (isW p d = true → isN p a b = true → isN p a' b' = true → Q .non H)
theorem ok_check_two {f CW CN a_check_number : Addr} {fd fd_check_number : FuncData} (F : Fun K "_check_two" "_check_two" s_check_two_ f fd)
    (G_check_number : FnOk P w K mg base (L2.CX P w) 4 a_check_number fd_check_number ["world", "x"] (spCheckNumber K CW CN)) (g_check_number : mg "check_number" = some (.ref a_check_number)) (k_check_number : PySem.W.keepIn K (.ref a_check_number) = true) (b_check_number : Binds K fd_check_number ["world", "x"] []) :
    FnOk P w K mg base (L2.CX P w) 5 f fd ["world", "x", "y"] (spCheckTwo K CW CN) := by
  refine F.okX sc_check_two_ (fun vs H Q E h => ?_) (fun cdv A outer s H vs Q E hr h => ?_)
  · obtain ⟨x, y, z, p, d, a, b, a', b', rfl, _⟩ := h
    rfl
  · obtain ⟨x, y, z, p, d, a, b, a', b', rfl, hx, hy, hz, q1, q2, q3⟩ := h
    refine ⟨_, (pss_cons (ps_expr (pe_call G_check_number (hr.mono (by decide)) rfl g_check_number k_check_number b_check_number .nil (passes_call (takes_of rfl rfl rfl rfl) (fun _ _ _ _ h => h)) (pa_cons (pv 0) (pa_cons (pv 1) pa_nil))))
  (pss_one (ps_expr (pe_call G_check_number (hr.mono (by decide)) rfl g_check_number k_check_number b_check_number .nil (passes_call (takes_of rfl rfl rfl rfl) (fun _ _ _ _ h => h)) (pa_cons (pv 0) (pa_cons (pv 2) pa_nil)))))), ?_⟩
    refine ⟨_, rfl, _, rfl, x, y, p, d, a, b, rfl, hx, hy, fun ew en => ?_, fun ew en => q2 ew (.inl en), q1⟩
    exact ⟨_, rfl, _, rfl, x, z, p, d, a', b', rfl, hx, hz, fun ew en' => q3 ew en en', fun ew en' => q2 ew (.inr en'), q1⟩
end

def spOp (K : PySem.W.Frag) (CW CN CB : Addr) (fA fB : Int → Int → Int → Int → Int) : Sp := fun vs H Q E => ∃ (x y z : Addr) (p d a b a' b' : Int), vs = [.ref x, .ref y, .ref z] ∧ SqT K H x [.int p, .int d] ∧ SqT K H y [.int a, .int b] ∧ SqT K H z [.int a', .int b'] ∧
  (isW p d = false → E (.ref CW) none H) ∧ (isW p d = true → (isN p a b = false ∨ isN p a' b' = false) → E (.ref CN) none H) ∧
  (isW p d = true → isN p a b = true → isN p a' b' = true → (a.natAbs < 2 ^ 62 ∧ b.natAbs < 2 ^ 62 ∧ a'.natAbs < 2 ^ 62 ∧ b'.natAbs < 2 ^ 62 ∧ DivOk (fB a b a' b')) ∧
    (bad p (fB a b a' b') → E (.ref CB) none H) ∧ (¬ bad p (fB a b a' b') → ∀ r u v, IsNum p (fA a b a' b') (fB a b a' b') u v → H r = none → Q (.ref r) (upd H r (.tup [.int u, .int v]))))
def fPlusA : Int → Int → Int → Int → Int := fun a b a' b' => a * b' + a' * b
def fMinusA : Int → Int → Int → Int → Int := fun a b a' b' => a * b' - a' * b
def fTimesA : Int → Int → Int → Int → Int := fun a _ a' _ => a * a'
def fTimesB : Int → Int → Int → Int → Int := fun _ b _ b' => b * b'
def fOverA : Int → Int → Int → Int → Int := fun a _ _ b' => a * b'
def fOverB : Int → Int → Int → Int → Int := fun _ b a' _ => b * a'
theorem cm62 {a b : Int} (h : a.natAbs < 2 ^ 62) : CMul a b := .inl ⟨by omega, by omega⟩

section
variable {P : Program} {w : World} {K : PySem.W.Frag} {mg : Str → Option Value} {base : Heap}
/-! ### plus -/
theorem ok_plus {f CW CN CB a_check_two_ a_number : Addr} {fd fd_check_two_ fd_number : FuncData} (F : Fun K "plus" "plus" s_plus f fd)
    (G_check_two_ : FnOk P w K mg base (L2.CX P w) 5 a_check_two_ fd_check_two_ ["world", "x", "y"] (spCheckTwo K CW CN)) (g_check_two_ : mg "_check_two" = some (.ref a_check_two_)) (k_check_two_ : PySem.W.keepIn K (.ref a_check_two_) = true) (b_check_two_ : Binds K fd_check_two_ ["world", "x", "y"] [])
    (G_number : FnOk P w K mg base (L2.CX P w) 3 a_number fd_number ["world", "a", "b"] (spNumber K CW CB)) (g_number : mg "number" = some (.ref a_number)) (k_number : PySem.W.keepIn K (.ref a_number) = true) (b_number : Binds K fd_number ["world", "a", "b"] []) :
    FnOk P w K mg base (L2.CX P w) 6 f fd ["world", "x", "y"] (spOp K CW CN CB fPlusA fTimesB) := by
  refine F.okX sc_plus (fun vs H Q E h => ?_) (fun cdv A outer s H vs Q E hr h => ?_)
  · obtain ⟨x, y, z, p, d, a, b, a', b', rfl, _⟩ := h
    rfl
  · obtain ⟨x, y, z, p, d, a, b, a', b', rfl, hx, hy, hz, q1, q2, q3⟩ := h
    have ya : atI [V.int a, V.int b] 0 = some (.int a) := atI_nat (j := 0) rfl
    have yb : atI [V.int a, V.int b] 1 = some (.int b) := atI_nat (j := 1) rfl
    have za : atI [V.int a', V.int b'] 0 = some (.int a') := atI_nat (j := 0) rfl
    have zb : atI [V.int a', V.int b'] 1 = some (.int b') := atI_nat (j := 1) rfl
    refine ⟨_, (pss_cons (ps_expr (pe_call G_check_two_ (hr.mono (by decide)) rfl g_check_two_ k_check_two_ b_check_two_ .nil (passes_call (takes_of rfl rfl rfl rfl) (fun _ _ _ _ h => h)) (pa_cons (pv 0) (pa_cons (pv 1) (pa_cons (pv 2) pa_nil)))))
  (pss_one (ps_ret (pe_call G_number (hr.mono (by decide)) rfl g_number k_number b_number .nil (passes_call (takes_of rfl rfl rfl rfl) (fun _ _ _ _ h => h)) (pa_cons (pv 0) (pa_cons (pe_op op_add (pe_op op_mul (pe_ix ix_tup (pv 1) pe_int (fun _ _ => rfl)) (pe_ix ix_tup (pv 2) pe_int (fun _ _ => rfl))) (pe_op op_mul (pe_ix ix_tup (pv 2) pe_int (fun _ _ => rfl)) (pe_ix ix_tup (pv 1) pe_int (fun _ _ => rfl)))) (pa_cons (pe_op op_mul (pe_ix ix_tup (pv 1) pe_int (fun _ _ => rfl)) (pe_ix ix_tup (pv 2) pe_int (fun _ _ => rfl))) pa_nil))))))), ?_⟩
    refine ⟨_, rfl, _, rfl, _, rfl, x, y, z, p, d, a, b, a', b', rfl, hx, hy, hz, q1, q2, fun ew en en' => ?_⟩
    obtain ⟨⟨b1, b2, b3, b4, b5⟩, qb, qn⟩ := q3 ew en en'
    exact ⟨_, rfl, _, rfl, y, _, 0, .int a, rfl, rfl, hy, ya, _, rfl, z, _, 1, .int b', rfl, rfl, hz, zb, a, b', rfl, rfl, cm62 b1, _, rfl, z, _, 0, .int a', rfl, rfl, hz, za, _, rfl, y, _, 1, .int b, rfl, rfl, hy, yb, a', b, rfl, rfl, cm62 b3, _, _, rfl, rfl, _, rfl, y, _, 1, .int b, rfl, rfl, hy, yb, _, rfl, z, _, 1, .int b', rfl, rfl, hz, zb, b, b', rfl, rfl, cm62 b2, x, p, d, _, _, rfl, hx, b5, q1, fun _ => qb, fun _ => qn⟩
end

section
variable {P : Program} {w : World} {K : PySem.W.Frag} {mg : Str → Option Value} {base : Heap}
/-! ### minus -/
theorem ok_minus {f CW CN CB a_check_two_ a_number : Addr} {fd fd_check_two_ fd_number : FuncData} (F : Fun K "minus" "minus" s_minus f fd)
    (G_check_two_ : FnOk P w K mg base (L2.CX P w) 5 a_check_two_ fd_check_two_ ["world", "x", "y"] (spCheckTwo K CW CN)) (g_check_two_ : mg "_check_two" = some (.ref a_check_two_)) (k_check_two_ : PySem.W.keepIn K (.ref a_check_two_) = true) (b_check_two_ : Binds K fd_check_two_ ["world", "x", "y"] [])
    (G_number : FnOk P w K mg base (L2.CX P w) 3 a_number fd_number ["world", "a", "b"] (spNumber K CW CB)) (g_number : mg "number" = some (.ref a_number)) (k_number : PySem.W.keepIn K (.ref a_number) = true) (b_number : Binds K fd_number ["world", "a", "b"] []) :
    FnOk P w K mg base (L2.CX P w) 6 f fd ["world", "x", "y"] (spOp K CW CN CB fMinusA fTimesB) := by
  refine F.okX sc_minus (fun vs H Q E h => ?_) (fun cdv A outer s H vs Q E hr h => ?_)
  · obtain ⟨x, y, z, p, d, a, b, a', b', rfl, _⟩ := h
    rfl
  · obtain ⟨x, y, z, p, d, a, b, a', b', rfl, hx, hy, hz, q1, q2, q3⟩ := h
    have ya : atI [V.int a, V.int b] 0 = some (.int a) := atI_nat (j := 0) rfl
    have yb : atI [V.int a, V.int b] 1 = some (.int b) := atI_nat (j := 1) rfl
    have za : atI [V.int a', V.int b'] 0 = some (.int a') := atI_nat (j := 0) rfl
    have zb : atI [V.int a', V.int b'] 1 = some (.int b') := atI_nat (j := 1) rfl
    refine ⟨_, (pss_cons (ps_expr (pe_call G_check_two_ (hr.mono (by decide)) rfl g_check_two_ k_check_two_ b_check_two_ .nil (passes_call (takes_of rfl rfl rfl rfl) (fun _ _ _ _ h => h)) (pa_cons (pv 0) (pa_cons (pv 1) (pa_cons (pv 2) pa_nil)))))
  (pss_one (ps_ret (pe_call G_number (hr.mono (by decide)) rfl g_number k_number b_number .nil (passes_call (takes_of rfl rfl rfl rfl) (fun _ _ _ _ h => h)) (pa_cons (pv 0) (pa_cons (pe_op op_sub (pe_op op_mul (pe_ix ix_tup (pv 1) pe_int (fun _ _ => rfl)) (pe_ix ix_tup (pv 2) pe_int (fun _ _ => rfl))) (pe_op op_mul (pe_ix ix_tup (pv 2) pe_int (fun _ _ => rfl)) (pe_ix ix_tup (pv 1) pe_int (fun _ _ => rfl)))) (pa_cons (pe_op op_mul (pe_ix ix_tup (pv 1) pe_int (fun _ _ => rfl)) (pe_ix ix_tup (pv 2) pe_int (fun _ _ => rfl))) pa_nil))))))), ?_⟩
    refine ⟨_, rfl, _, rfl, _, rfl, x, y, z, p, d, a, b, a', b', rfl, hx, hy, hz, q1, q2, fun ew en en' => ?_⟩
    obtain ⟨⟨b1, b2, b3, b4, b5⟩, qb, qn⟩ := q3 ew en en'
    exact ⟨_, rfl, _, rfl, y, _, 0, .int a, rfl, rfl, hy, ya, _, rfl, z, _, 1, .int b', rfl, rfl, hz, zb, a, b', rfl, rfl, cm62 b1, _, rfl, z, _, 0, .int a', rfl, rfl, hz, za, _, rfl, y, _, 1, .int b, rfl, rfl, hy, yb, a', b, rfl, rfl, cm62 b3, _, _, rfl, rfl, _, rfl, y, _, 1, .int b, rfl, rfl, hy, yb, _, rfl, z, _, 1, .int b', rfl, rfl, hz, zb, b, b', rfl, rfl, cm62 b2, x, p, d, _, _, rfl, hx, b5, q1, fun _ => qb, fun _ => qn⟩
end

section
variable {P : Program} {w : World} {K : PySem.W.Frag} {mg : Str → Option Value} {base : Heap}
/-! ### times -/
theorem ok_times {f CW CN CB a_check_two_ a_number : Addr} {fd fd_check_two_ fd_number : FuncData} (F : Fun K "times" "times" s_times f fd)
    (G_check_two_ : FnOk P w K mg base (L2.CX P w) 5 a_check_two_ fd_check_two_ ["world", "x", "y"] (spCheckTwo K CW CN)) (g_check_two_ : mg "_check_two" = some (.ref a_check_two_)) (k_check_two_ : PySem.W.keepIn K (.ref a_check_two_) = true) (b_check_two_ : Binds K fd_check_two_ ["world", "x", "y"] [])
    (G_number : FnOk P w K mg base (L2.CX P w) 3 a_number fd_number ["world", "a", "b"] (spNumber K CW CB)) (g_number : mg "number" = some (.ref a_number)) (k_number : PySem.W.keepIn K (.ref a_number) = true) (b_number : Binds K fd_number ["world", "a", "b"] []) :
    FnOk P w K mg base (L2.CX P w) 6 f fd ["world", "x", "y"] (spOp K CW CN CB fTimesA fTimesB) := by
  refine F.okX sc_times (fun vs H Q E h => ?_) (fun cdv A outer s H vs Q E hr h => ?_)
  · obtain ⟨x, y, z, p, d, a, b, a', b', rfl, _⟩ := h
    rfl
  · obtain ⟨x, y, z, p, d, a, b, a', b', rfl, hx, hy, hz, q1, q2, q3⟩ := h
    have ya : atI [V.int a, V.int b] 0 = some (.int a) := atI_nat (j := 0) rfl
    have yb : atI [V.int a, V.int b] 1 = some (.int b) := atI_nat (j := 1) rfl
    have za : atI [V.int a', V.int b'] 0 = some (.int a') := atI_nat (j := 0) rfl
    have zb : atI [V.int a', V.int b'] 1 = some (.int b') := atI_nat (j := 1) rfl
    refine ⟨_, (pss_cons (ps_expr (pe_call G_check_two_ (hr.mono (by decide)) rfl g_check_two_ k_check_two_ b_check_two_ .nil (passes_call (takes_of rfl rfl rfl rfl) (fun _ _ _ _ h => h)) (pa_cons (pv 0) (pa_cons (pv 1) (pa_cons (pv 2) pa_nil)))))
  (pss_one (ps_ret (pe_call G_number (hr.mono (by decide)) rfl g_number k_number b_number .nil (passes_call (takes_of rfl rfl rfl rfl) (fun _ _ _ _ h => h)) (pa_cons (pv 0) (pa_cons (pe_op op_mul (pe_ix ix_tup (pv 1) pe_int (fun _ _ => rfl)) (pe_ix ix_tup (pv 2) pe_int (fun _ _ => rfl))) (pa_cons (pe_op op_mul (pe_ix ix_tup (pv 1) pe_int (fun _ _ => rfl)) (pe_ix ix_tup (pv 2) pe_int (fun _ _ => rfl))) pa_nil))))))), ?_⟩
    refine ⟨_, rfl, _, rfl, _, rfl, x, y, z, p, d, a, b, a', b', rfl, hx, hy, hz, q1, q2, fun ew en en' => ?_⟩
    obtain ⟨⟨b1, b2, b3, b4, b5⟩, qb, qn⟩ := q3 ew en en'
    exact ⟨_, rfl, _, rfl, y, _, 0, .int a, rfl, rfl, hy, ya, _, rfl, z, _, 0, .int a', rfl, rfl, hz, za, a, a', rfl, rfl, cm62 b1, _, rfl, y, _, 1, .int b, rfl, rfl, hy, yb, _, rfl, z, _, 1, .int b', rfl, rfl, hz, zb, b, b', rfl, rfl, cm62 b2, x, p, d, _, _, rfl, hx, b5, q1, fun _ => qb, fun _ => qn⟩
end

section
variable {P : Program} {w : World} {K : PySem.W.Frag} {mg : Str → Option Value} {base : Heap}
/-! ### over -/
theorem ok_over {f CW CN CB a_check_two_ a_number : Addr} {fd fd_check_two_ fd_number : FuncData} (F : Fun K "over" "over" s_over f fd)
    (G_check_two_ : FnOk P w K mg base (L2.CX P w) 5 a_check_two_ fd_check_two_ ["world", "x", "y"] (spCheckTwo K CW CN)) (g_check_two_ : mg "_check_two" = some (.ref a_check_two_)) (k_check_two_ : PySem.W.keepIn K (.ref a_check_two_) = true) (b_check_two_ : Binds K fd_check_two_ ["world", "x", "y"] [])
    (G_number : FnOk P w K mg base (L2.CX P w) 3 a_number fd_number ["world", "a", "b"] (spNumber K CW CB)) (g_number : mg "number" = some (.ref a_number)) (k_number : PySem.W.keepIn K (.ref a_number) = true) (b_number : Binds K fd_number ["world", "a", "b"] []) :
    FnOk P w K mg base (L2.CX P w) 6 f fd ["world", "x", "y"] (spOp K CW CN CB fOverA fOverB) := by
  refine F.okX sc_over (fun vs H Q E h => ?_) (fun cdv A outer s H vs Q E hr h => ?_)
  · obtain ⟨x, y, z, p, d, a, b, a', b', rfl, _⟩ := h
    rfl
  · obtain ⟨x, y, z, p, d, a, b, a', b', rfl, hx, hy, hz, q1, q2, q3⟩ := h
    have ya : atI [V.int a, V.int b] 0 = some (.int a) := atI_nat (j := 0) rfl
    have yb : atI [V.int a, V.int b] 1 = some (.int b) := atI_nat (j := 1) rfl
    have za : atI [V.int a', V.int b'] 0 = some (.int a') := atI_nat (j := 0) rfl
    have zb : atI [V.int a', V.int b'] 1 = some (.int b') := atI_nat (j := 1) rfl
    refine ⟨_, (pss_cons (ps_expr (pe_call G_check_two_ (hr.mono (by decide)) rfl g_check_two_ k_check_two_ b_check_two_ .nil (passes_call (takes_of rfl rfl rfl rfl) (fun _ _ _ _ h => h)) (pa_cons (pv 0) (pa_cons (pv 1) (pa_cons (pv 2) pa_nil)))))
  (pss_one (ps_ret (pe_call G_number (hr.mono (by decide)) rfl g_number k_number b_number .nil (passes_call (takes_of rfl rfl rfl rfl) (fun _ _ _ _ h => h)) (pa_cons (pv 0) (pa_cons (pe_op op_mul (pe_ix ix_tup (pv 1) pe_int (fun _ _ => rfl)) (pe_ix ix_tup (pv 2) pe_int (fun _ _ => rfl))) (pa_cons (pe_op op_mul (pe_ix ix_tup (pv 1) pe_int (fun _ _ => rfl)) (pe_ix ix_tup (pv 2) pe_int (fun _ _ => rfl))) pa_nil))))))), ?_⟩
    refine ⟨_, rfl, _, rfl, _, rfl, x, y, z, p, d, a, b, a', b', rfl, hx, hy, hz, q1, q2, fun ew en en' => ?_⟩
    obtain ⟨⟨b1, b2, b3, b4, b5⟩, qb, qn⟩ := q3 ew en en'
    exact ⟨_, rfl, _, rfl, y, _, 0, .int a, rfl, rfl, hy, ya, _, rfl, z, _, 1, .int b', rfl, rfl, hz, zb, a, b', rfl, rfl, cm62 b1, _, rfl, y, _, 1, .int b, rfl, rfl, hy, yb, _, rfl, z, _, 0, .int a', rfl, rfl, hz, za, b, a', rfl, rfl, cm62 b2, x, p, d, _, _, rfl, hx, b5, q1, fun _ => qb, fun _ => qn⟩
end

section
variable {P : Program} {w : World} {K : PySem.W.Frag} {mg : Str → Option Value} {base : Heap}
/-! ### power -/
def spPower (K : PySem.W.Frag) (CW CN CB : Addr) : Sp := fun vs H Q E => ∃ (x y : Addr) (p d a b n : Int), vs = [.ref x, .ref y, .int n] ∧ SqT K H x [.int p, .int d] ∧ SqT K H y [.int a, .int b] ∧
  (isW p d = false → E (.ref CW) none H) ∧ (isW p d = true → isN p a b = false → E (.ref CN) none H) ∧ (isW p d = true → isN p a b = true → ¬ (0 ≤ n ∧ n ≤ 200) → E (.ref CB) none H) ∧
  (isW p d = true → isN p a b = true → 0 ≤ n → n ≤ 200 → n ≤ 16 ∧ (p = 0 → a.natAbs ≤ 9) ∧ b.natAbs ≤ 4 ∧ (∀ r u v H', IsNum p (a ^ n.toNat) (b ^ n.toNat) u v → Same H H' → SqT K H' r [.int u, .int v] → Q (.ref r) H'))
theorem isN_pos {p a b : Int} (h : isN p a b = true) (hp : p = 0 ∨ p ∈ primes) : (p = 0 → 0 < b) ∧ (p ≠ 0 → b = 1 ∧ 0 ≤ a ∧ a < p) := by
  unfold isN at h
  constructor
  · intro c
    rw [if_pos c] at h
    by_cases e : 1 ≤ b
    · omega
    · rw [if_neg e] at h
      cases h
  · intro c
    rw [if_neg c] at h
    by_cases e : b = 1
    · rw [if_pos e] at h
      by_cases e2 : 0 ≤ a
      · rw [if_pos e2] at h
        exact ⟨e, e2, of_decide_eq_true h⟩
      · rw [if_neg e2] at h
        cases h
    · rw [if_neg e] at h
      cases h
theorem num_isN {p A B u v : Int} (hp : p = 0 ∨ p ∈ primes) (hB : p = 0 → B ≠ 0) (h : IsNum p A B u v) : isN p u v = true := by
  by_cases c : p = 0
  · obtain ⟨_, e⟩ := h.resolve_left (fun z => by omega)
    have := low_isN (a := A) (hB c)
    rw [← e] at this
    rw [c]
    exact this
  · have hp2 := prime_pos (hp.resolve_left c)
    obtain ⟨h0, e1, l1, u1, m1⟩ := h.resolve_right (fun z => by omega)
    unfold isN
    rw [if_neg c, if_pos e1, if_pos l1]
    exact decide_eq_true u1
theorem pow_small {a : Int} {k : Nat} (ha : a.natAbs ≤ 9) (hk : k ≤ 16) : (a ^ k).natAbs ≤ 9 ^ 16 := by
  rw [Int.natAbs_pow]
  exact Nat.le_trans (Nat.pow_le_pow_left ha k) (Nat.pow_le_pow_right (by decide) hk)
theorem pow_small4 {b : Int} {k : Nat} (hb : b.natAbs ≤ 4) (hk : k ≤ 16) : (b ^ k).natAbs ≤ 4 ^ 16 := by
  rw [Int.natAbs_pow]
  exact Nat.le_trans (Nat.pow_le_pow_left hb k) (Nat.pow_le_pow_right (by decide) hk)
theorem ok_power {f CW CN CB aO a_check_number a_times : Addr} {fd fd_check_number fd_times : FuncData} {tm : Tok} (F : Fun K "power" "power" s_power f fd) (T : ErrC K mg "BadNumber" CB) (z_range : mg "range" = none) (m_MOST_POWER : mg "MOST_POWER" = some (.int 200 tm)) (m_ONE : mg "ONE" = some (.ref aO)) (tO : ∀ H, SqT K H aO [.int 1, .int 1])
    (G_check_number : FnOk P w K mg base (L2.CX P w) 4 a_check_number fd_check_number ["world", "x"] (spCheckNumber K CW CN)) (g_check_number : mg "check_number" = some (.ref a_check_number)) (k_check_number : PySem.W.keepIn K (.ref a_check_number) = true) (b_check_number : Binds K fd_check_number ["world", "x"] [])
    (G_times : FnOk P w K mg base (L2.CX P w) 6 a_times fd_times ["world", "x", "y"] (spOp K CW CN CB fTimesA fTimesB)) (g_times : mg "times" = some (.ref a_times)) (k_times : PySem.W.keepIn K (.ref a_times) = true) (b_times : Binds K fd_times ["world", "x", "y"] []) :
    FnOk P w K mg base (L2.CX P w) 7 f fd ["world", "x", "count"] (spPower K CW CN CB) := by
  obtain ⟨gc_BadNumber, x_BadNumber, kc_BadNumber, bc_BadNumber, tc_BadNumber⟩ := T
  have r_MOST_POWER : RelV (.int 200) (.int 200 tm) := ⟨_, rfl⟩
  have r_ONE : RelV (.ref aO) (.ref aO) := rfl
  refine F.okX sc_power (fun vs H Q E h => ?_) (fun cdv A outer s H vs Q E hr h => ?_)
  · obtain ⟨x, y, p, d, a, b, n, rfl, _⟩ := h
    rfl
  · obtain ⟨x, y, p, d, a, b, n, rfl, hx, hy, q1, q2, q3, q4⟩ := h
    refine ⟨_, (pss_cons (ps_expr (pe_call G_check_number (hr.mono (by decide)) rfl g_check_number k_check_number b_check_number .nil (passes_call (takes_of rfl rfl rfl rfl) (fun _ _ _ _ h => h)) (pa_cons (pv 0) (pa_cons (pv 1) pa_nil))))
  (pss_cons (ps_if (pt_not (pt_chain op_le op_le pe_int (pv 2) (pe_glob rfl m_MOST_POWER r_MOST_POWER))) (pss_one (ps_raise rfl (takes_of rfl rfl rfl rfl) (pmk_own PySem.F.excBase_ValueError x_BadNumber gc_BadNumber kc_BadNumber (raises_own bc_BadNumber tc_BadNumber) rfl))) pss_nil)
  (pss_cons (ps_set (i := 3) sc_power.nd rfl (.inl rfl) (pe_glob rfl m_ONE r_ONE))
  (pss_cons (ps_for (passes_of rfl) rfl (pi_range1 rfl z_range (pa_cons (pv 2) pa_nil)) (pg_name (i := 4) sc_power.nd rfl (.inl rfl)) (pss_one (ps_set (i := 3) sc_power.nd rfl (.inl rfl) (pe_call G_times (hr.mono (by decide)) rfl g_times k_times b_times .nil (passes_call (takes_of rfl rfl rfl rfl) (fun _ _ _ _ h => h)) (pa_cons (pv 0) (pa_cons (pv 3) (pa_cons (pv 1) pa_nil)))))))
  (pss_one (ps_ret (pv 3))))))), ?_⟩
    refine ⟨_, rfl, _, rfl, x, y, p, d, a, b, rfl, hx, hy, fun ew en => ?_, q2, q1⟩
    refine ⟨_, rfl, 0, n, rfl, rfl, _, rfl, ite2 (fun e => ?_) (fun e => ?_)⟩
    · have n0 : 0 ≤ n := of_decide_eq_true e
      refine ⟨n, 200, rfl, rfl, _, rfl, ?_⟩
      by_cases n1 : n ≤ 200
      · rw [decide_eq_true n1]
        refine iteF ?_
        obtain ⟨n12, sa, sb, q⟩ := q4 ew en n0 n1
        obtain ⟨hp, _⟩ := isW_cases ew
        obtain ⟨pz, pn⟩ := isN_pos en hp
        refine ⟨_, rfl, n, rfl, by omega, by omega, for_range (lo := 0) (n := n.toNat) (fun i σ H' => ∃ (r : Addr) (u v : Int) (v4 : Option V), σ = [some (.ref x), some (.ref y), some (.int n), some (.ref r), v4] ∧ Same H H' ∧ SqT K H' r [.int u, .int v] ∧ IsNum p (a ^ i) (b ^ i) u v)
          ⟨aO, 1, 1, none, rfl, Same.refl _, tO _, ?_⟩ ?_ ?_⟩
        · by_cases c : p = 0
          · exact .inr ⟨by omega, by rw [Int.pow_zero, Int.pow_zero]; rfl⟩
          · have := prime_pos (hp.resolve_left c)
            exact .inl ⟨by omega, rfl, by decide, by omega, by rw [Int.pow_zero, Int.pow_zero, show (1 : Int) * 1 - 1 = 0 by decide]; exact Int.zero_emod p⟩
        · rintro i σ H' hi ⟨r, u, v, v4, rfl, sm, hr', hn⟩
          have hB : p = 0 → b ^ i ≠ 0 := fun c => Int.pow_ne_zero (by have := pz c; omega)
          have s2 := pow_small4 (k := i) sb (by omega)
          obtain ⟨su, sv, pv⟩ : u.natAbs ≤ 9 ^ 16 ∧ v.natAbs ≤ 4 ^ 16 ∧ 0 < v := by
            rcases hn with ⟨h0, e1, l1, l2, _⟩ | ⟨h0, e1⟩
            · have := prime_pos (hp.resolve_left (by omega))
              omega
            · have hz : p = 0 := by
                by_cases c : p = 0
                · exact c
                · have := prime_pos (hp.resolve_left c)
                  omega
              have s1 := pow_small (k := i) (sa hz) (by omega)
              have g1 := low_small e1
              have g2 := (low_cross (hB hz) e1).2
              omega
          have aSm : a.natAbs < 2 ^ 62 := by
            by_cases c : p = 0
            · have := sa c
              omega
            · have := prime_pos (hp.resolve_left c)
              have := pn c
              omega
          have hbn : ¬ bad p (fTimesB u v a b) := fun z => by
            rcases z with z | ⟨z1, z2⟩
            · by_cases c : p = 0
              · have := pz c
                have e := (hn.resolve_left (fun z => by omega)).2
                have := (low_cross (hB c) e).2
                exact absurd z (Int.mul_ne_zero (by omega) (by omega))
              · have := (hn.resolve_right (fun z => by have := prime_pos (hp.resolve_left c); omega)).2.1
                rw [show fTimesB u v a b = v * b from rfl, this, (pn c).1] at z
                cases z
            · have c : p ≠ 0 := by omega
              have := (hn.resolve_right (fun z => by omega)).2.1
              rw [show fTimesB u v a b = v * b from rfl, this, (pn c).1, Int.emod_eq_of_lt (by decide) (by have := prime_pos (hp.resolve_left c); omega)] at z2
              cases z2
          have hvb : DivOk (fTimesB u v a b) := by
            refine .inr ⟨?_, ?_⟩
            · show 0 < v * b
              by_cases c : p = 0
              · exact Int.mul_pos pv (pz c)
              · rw [(pn c).1]
                omega
            · show (v * b).natAbs < _
              rw [Int.natAbs_mul]
              have := Nat.mul_le_mul sv sb
              exact Nat.lt_of_le_of_lt this (by decide)
          refine ⟨_, rfl, _, rfl, _, rfl, x, r, y, p, d, u, v, a, b, rfl, sqT_same sm hx, hr', sqT_same sm hy, fun z => ?_, fun _ z => ?_, fun _ _ _ => ⟨⟨by omega, by omega, by omega, by omega, hvb⟩, fun z => absurd z hbn, fun _ r' u' v' hn' nr' => ?_⟩⟩
          · rw [ew] at z
            exact nomatch z
          · rcases z with z | z
            · rw [num_isN hp hB hn] at z
              exact nomatch z
            · rw [en] at z
              exact nomatch z
          · refine ⟨r', u', v', some (.int (0 + (i : Int))), rfl, Same.trans sm (same_upd nr'), .inl (.inl upd_same), ?_⟩
            rw [Int.pow_succ, Int.pow_succ]
            exact num_step hp hB (fun c => by have := pz c; omega) (fun c => (pn c).1) (fun c => by rw [(pn c).1, Int.one_pow]) hn hn'
        · rintro σ H' ⟨r, u, v, v4, rfl, sm, hr', hn⟩
          exact ⟨_, rfl, q r u v H' hn sm hr'⟩
      · rw [decide_eq_false n1]
        exact iteT (q3 ew en (fun z => n1 z.2))
    · exact ⟨_, rfl, iteT (q3 ew en (fun z => e (decide_eq_true z.1)))⟩
end

def iT (i : Int) : Str := Str.ofString (toString i)
def intTx (k : Int) : Str := (if decide (k < 0) = true then ("-" : Str) else ("" : Str)) ++ Txt.join "" [iT (k.natAbs : Int)]
def numTx (a b : Int) : Str := if b = 1 then intTx a else intTx a ++ ("/" : Str) ++ intTx b
def c60 : Int := 1000000000000000000000000000000000000000000000000000000000000
theorem iT_len {n : Nat} (h : n < 10 ^ 60) : (iT (n : Int)).length ≤ 60 := by
  show (Str.ofString (toString ((n : Nat) : Int))).length ≤ 60
  rw [TL.len_tl, TL.tl_num]
  exact TL.numL_len (by decide) h
theorem log60 {i : Int} (h : i.natAbs < 10 ^ 60) : i.natAbs.log2 < 1920 := by
  by_cases c : i.natAbs = 0
  · rw [c]
    decide
  · exact Nat.lt_of_lt_of_le ((Nat.log2_lt c).mpr (Nat.lt_trans h (by decide : (10 : Nat) ^ 60 < 2 ^ 200))) (by decide)
theorem len_cat (x y : Str) : (x ++ y).length = x.length + y.length := by
  rw [TL.len_tl, TL.len_tl, TL.len_tl, TL.tl_append, List.length_append]
theorem join1 (x : Str) : Txt.join "" [x] = x := by
  have e := SX.join_S [] [x.cps.toList]
  have s : (SX.S x.cps.toList) = x := SX.S_tl x
  rw [show ([x.cps.toList].map SX.S) = [x] by show [SX.S x.cps.toList] = [x]; rw [s]] at e
  rw [show ("" : Str) = SX.S [] by decide +kernel, e]
  show SX.S _ = x
  conv => rhs; rw [← s]
  congr 1
theorem intTx_len {k : Int} (h : k.natAbs < 10 ^ 60) : (intTx k).length ≤ 61 := by
  unfold intTx
  rw [join1, len_cat]
  have := iT_len h
  split
  · have : ("-" : Str).length = 1 := by decide +kernel
    omega
  · have : ("" : Str).length = 0 := by decide +kernel
    omega
section
variable {P : Program} {w : World} {K : PySem.W.Frag} {mg : Str → Option Value} {base : Heap}
/-! ### _integer_text -/
def spIntText : Sp := fun vs H Q _ => ∃ k : Int, vs = [.int k] ∧ k.natAbs < 10 ^ 60 ∧ ∀ H', Same H H' → Q (.str (intTx k)) H'
theorem ok_integer_text_ {f : Addr} {fd : FuncData} {tc tf : Tok} (F : Fun K "_integer_text" "_integer_text" s_integer_text_ f fd) (z_abs : mg "abs" = none) (z_str : mg "str" = none) (z_divmod : mg "divmod" = none)
    (m_CHUNK : mg "CHUNK" = some (.int c60 tc)) (m_CHUNK_FIGURES : mg "CHUNK_FIGURES" = some (.int 60 tf)) : FnOk P w K mg base CX0 1 f fd ["k"] spIntText := by
  have r_CHUNK : RelV (.int c60) (.int c60 tc) := ⟨_, rfl⟩
  have r_CHUNK_FIGURES : RelV (.int 60) (.int 60 tf) := ⟨_, rfl⟩
  refine F.ok sc_integer_text_ (fun vs H Q E h => ?_) (fun cdv A outer s H vs Q E hr h => ?_)
  · obtain ⟨k, rfl, _⟩ := h
    rfl
  · obtain ⟨k, rfl, hk, q⟩ := h
    have lk := iT_len hk
    refine ⟨_, (pss_cons (ps_set (i := 1) sc_integer_text_.nd rfl (.inl rfl) (pe_callB call_abs (by rfl) z_abs boot_abs (pa_cons (pv 0) pa_nil)))
  (pss_cons (ps_set (i := 2) sc_integer_text_.nd rfl (.inl rfl) (pe_lst pa_nil))
  (pss_cons (ps_while PassesOwn.never (pt_cmpR op_ge (pv 1) (pe_glob rfl m_CHUNK r_CHUNK) (nomark _)) (pss_cons (ps_asg (pe_callB call_divmod (by rfl) z_divmod boot_divmod (pa_cons (pv 1) (pa_cons (pe_glob rfl m_CHUNK r_CHUNK) pa_nil))) (pg_tup rfl (pgs_cons (pg_name (i := 1) sc_integer_text_.nd rfl (.inl rfl)) (pgs_cons (pg_name (i := 3) sc_integer_text_.nd rfl (.inl rfl)) pgs_nil))))
  (pss_one (ps_expr (pe_bm PySem.F.plainAttrs_list PySem.F.slot_list_append PySem.F.type_list_append mt_append (pv 2) (pa_cons (pe_bm PySem.F.plainAttrs_str PySem.F.slot_str_zfill PySem.F.type_str_zfill mt_zfill (pe_callTy call_str_int (by rfl) z_str boot_str (pa_cons (pv 3) pa_nil)) (pa_cons (pe_glob rfl m_CHUNK_FIGURES r_CHUNK_FIGURES) pa_nil)) pa_nil))))))
  (pss_cons (ps_expr (pe_bm PySem.F.plainAttrs_list PySem.F.slot_list_append PySem.F.type_list_append mt_append (pv 2) (pa_cons (pe_callTy call_str_int (by rfl) z_str boot_str (pa_cons (pv 1) pa_nil)) pa_nil)))
  (pss_cons (ps_set (i := 4) sc_integer_text_.nd rfl (.inl rfl) (pe_ifExp (pt_cmpR op_lt (pv 0) pe_int (nomark _)) pe_str pe_str))
  (pss_one (ps_ret (pe_op op_add_str (pv 4) (pe_join pe_str (pe_revL (pv 2))))))))))), ?_⟩
    refine ⟨_, rfl, k, rfl, ?_⟩
    rw [show (if k < 0 then -k else k) = (k.natAbs : Int) by omega]
    refine ⟨(by show 0 ≤ sizeLine; decide), fun l nl => ?_⟩
    refine ⟨fun m σ H' => σ = [some (.int k), some (.int k.natAbs), some (.ref l), none, none] ∧ H' = upd H l (.lst []), ⟨0, rfl, rfl⟩, ?_⟩
    rintro m σ H' ⟨rfl, rfl⟩
    refine ⟨_, rfl, _, _, rfl, rfl, _, rfl, ?_⟩
    have cn : ¬ (k.natAbs : Int) ≥ c60 := by
      have e : c60 = ((10 ^ 60 : Nat) : Int) := by decide
      rw [e]
      omega
    rw [decide_eq_false cn]
    refine iteF ?_
    refine ⟨_, rfl, .inl ⟨rfl, _, .inl (.inl upd_same)⟩, _, rfl, k.natAbs, rfl, log60 hk, l, [], _, rfl, rfl, upd_same, (by show 0 < sizeLine; decide), ?_⟩
    refine ⟨_, rfl, k, 0, rfl, rfl, _, rfl, ?_⟩
    have nn : Same H (upd (upd H l (.lst [])) l (.lst ([] ++ [.str (iT (k.natAbs : Int))]))) := Same.mut (same_upd nl) nl
    have hl : upd (upd H l (.lst [])) l (.lst ([] ++ [V.str (iT (k.natAbs : Int))])) l = some (.lst [.str (iT (k.natAbs : Int))]) := upd_same
    have e0 : ("" : Str).length = 0 := by decide +kernel
    have e1 : ("-" : Str).length = 1 := by decide +kernel
    have jl : (Txt.join ("" : Str) [iT (k.natAbs : Int)]).length ≤ 60 := by rw [join1]; exact lk
    have szl : 100 ≤ sizeLine := by decide
    refine ite2 (fun e => ?_) (fun e => ?_)
    · refine ⟨_, rfl, ⟨_, rfl⟩, _, rfl, l, _, rfl, .inl (.inl hl), fun p np => ⟨_, p, [iT (k.natAbs : Int)], rfl, rfl, .inl (.inl (.inl upd_same)), ?_, _, _, rfl, rfl, ?_, ?_⟩⟩
      · show (iT (k.natAbs : Int)).length + 0 + 1 * ("" : Str).length ≤ 16777216
        omega
      · omega
      · have := q _ (Same.trans nn (same_upd (o := .lst [V.str (iT (k.natAbs : Int))].reverse) np))
        unfold intTx at this
        rw [e, if_pos rfl] at this
        exact this
    · refine ⟨_, rfl, ⟨_, rfl⟩, _, rfl, l, _, rfl, .inl (.inl hl), fun p np => ⟨_, p, [iT (k.natAbs : Int)], rfl, rfl, .inl (.inl (.inl upd_same)), ?_, _, _, rfl, rfl, ?_, ?_⟩⟩
      · show (iT (k.natAbs : Int)).length + 0 + 1 * ("" : Str).length ≤ 16777216
        omega
      · omega
      · have := q _ (Same.trans nn (same_upd (o := .lst [V.str (iT (k.natAbs : Int))].reverse) np))
        unfold intTx at this
        rw [if_neg e] at this
        exact this
end

section
variable {P : Program} {w : World} {K : PySem.W.Frag} {mg : Str → Option Value} {base : Heap}
/-! ### number_text -/
def spNumText (K : PySem.W.Frag) (CW CN : Addr) : Sp := fun vs H Q E => ∃ (x y : Addr) (p d a b : Int), vs = [.ref x, .ref y] ∧ SqT K H x [.int p, .int d] ∧ SqT K H y [.int a, .int b] ∧
  (isW p d = false → E (.ref CW) none H) ∧ (isW p d = true → isN p a b = false → E (.ref CN) none H) ∧ (isW p d = true → isN p a b = true → a.natAbs < 10 ^ 60 ∧ b.natAbs < 10 ^ 60 ∧ ∀ H', Same H H' → Q (.str (numTx a b)) H')
theorem ok_number_text {f CW CN a_check_number a_integer_text_ : Addr} {fd fd_check_number fd_integer_text_ : FuncData} (F : Fun K "number_text" "number_text" s_number_text f fd)
    (G_check_number : FnOk P w K mg base (L2.CX P w) 4 a_check_number fd_check_number ["world", "x"] (spCheckNumber K CW CN)) (g_check_number : mg "check_number" = some (.ref a_check_number)) (k_check_number : PySem.W.keepIn K (.ref a_check_number) = true) (b_check_number : Binds K fd_check_number ["world", "x"] [])
    (G_integer_text_ : FnOk P w K mg base CX0 1 a_integer_text_ fd_integer_text_ ["k"] spIntText) (g_integer_text_ : mg "_integer_text" = some (.ref a_integer_text_)) (k_integer_text_ : PySem.W.keepIn K (.ref a_integer_text_) = true) (b_integer_text_ : Binds K fd_integer_text_ ["k"] []) :
    FnOk P w K mg base (L2.CX P w) 5 f fd ["world", "x"] (spNumText K CW CN) := by
  refine F.okX sc_number_text (fun vs H Q E h => ?_) (fun cdv A outer s H vs Q E hr h => ?_)
  · obtain ⟨x, y, p, d, a, b, rfl, _⟩ := h
    rfl
  · obtain ⟨x, y, p, d, a, b, rfl, hx, hy, q1, q2, q3⟩ := h
    refine ⟨_, (pss_cons (ps_expr (pe_call G_check_number (hr.mono (by decide)) rfl g_check_number k_check_number b_check_number .nil (passes_call (takes_of rfl rfl rfl rfl) (fun _ _ _ _ h => h)) (pa_cons (pv 0) (pa_cons (pv 1) pa_nil))))
  (pss_cons (ps_asg (pv 1) (pg_tup rfl (pgs_cons (pg_name (i := 2) sc_number_text.nd rfl (.inl rfl)) (pgs_cons (pg_name (i := 3) sc_number_text.nd rfl (.inl rfl)) pgs_nil))))
  (pss_cons (ps_if (pt_cmpR op_eq (pv 3) pe_int (nomark _)) (pss_one (ps_ret (pe_call G_integer_text_ (hr.mono (by decide)) rfl g_integer_text_ k_integer_text_ b_integer_text_ .nil pass0 (pa_cons (pv 2) pa_nil)))) pss_nil)
  (pss_one (ps_ret (pe_op op_add_str (pe_op op_add_str (pe_call G_integer_text_ (hr.mono (by decide)) rfl g_integer_text_ k_integer_text_ b_integer_text_ .nil pass0 (pa_cons (pv 2) pa_nil)) pe_str) (pe_call G_integer_text_ (hr.mono (by decide)) rfl g_integer_text_ k_integer_text_ b_integer_text_ .nil pass0 (pa_cons (pv 3) pa_nil)))))))), ?_⟩
    refine ⟨_, rfl, _, rfl, x, y, p, d, a, b, rfl, hx, hy, fun ew en => ?_, q2, q1⟩
    obtain ⟨la, lb, q⟩ := q3 ew en
    refine ⟨_, rfl, y, _, rfl, hy, rfl, _, _, rfl, _, _, rfl, rfl, ?_⟩
    refine ⟨_, rfl, rfl, _, rfl, ?_⟩
    have szl : 200 ≤ sizeLine := by decide
    have e1 : ("/" : Str).length = 1 := by decide +kernel
    have la2 := intTx_len la
    have lb2 := intTx_len lb
    by_cases c : b = 1
    · rw [decide_eq_true (congrArg V.int c)]
      refine iteT ⟨_, rfl, a, rfl, la, fun H' sm => ?_⟩
      have := q H' sm
      unfold numTx at this
      rw [if_pos c] at this
      exact this
    · rw [decide_eq_false (fun z => c (V.int.inj z))]
      refine iteF ⟨_, rfl, a, rfl, la, fun H1 s1 => ⟨_, _, rfl, rfl, by omega, _, rfl, b, rfl, lb, fun H2 s2 => ⟨_, _, rfl, rfl, by rw [len_cat]; omega, ?_⟩⟩⟩
      have := q H2 (Same.trans s1 s2)
      unfold numTx at this
      rw [if_neg c] at this
      exact this
end

def shortW (w : Str) : Bool := if Txt.isascii (Txt.removeprefix w "-") = true then (if Txt.isdigit (Txt.removeprefix w "-") = true then decide (((Txt.removeprefix w "-").length : Int) ≤ 60) else false) else false
theorem rp_len (x y : Str) : (Txt.removeprefix x y).length ≤ x.length := by
  unfold Txt.removeprefix Txt.affix
  split
  · rename_i lo hi h
    split
    · exact Nat.le_refl _
    · show (x.cps.extract lo hi).size ≤ x.cps.size
      rw [Array.size_extract]
      omega
  · exact Nat.le_refl _

/-! ### Malformed(at): the class with its own __init__ -/
section
variable {P : Program} {w : World} {K : PySem.W.Frag} {mg : Str → Option Value} {base : Heap}
def spInitM (K : PySem.W.Frag) : Sp := fun vs H Q _ => ∃ (a C : Addr) (v : V), vs = [.ref a, v] ∧ OexC K C ∧ PySem.W.findIn K (.ref C) "at" = some none ∧ H a = some (exo a C none) ∧
  ∀ dx, H dx = none → dx ≠ a → Q .non (upd (upd H dx (exd dx [(("at" : Str), v)])) a (exo a C (some dx)))
theorem ok_Malformed_init {f : Addr} {fd : FuncData} (F : Fun K "__init__" "Malformed.__init__" s_Malformed_init f fd) : FnOk P w K mg base CX0 1 f fd ["self", "at"] (spInitM K) := by
  refine F.ok sc_Malformed_init (fun vs H Q E h => ?_) (fun cdv A outer s H vs Q E hr h => ?_)
  · obtain ⟨a, C, v, rfl, _⟩ := h
    rfl
  · obtain ⟨a, C, v, rfl, T, hn, ha, q⟩ := h
    refine ⟨_, pss_one (ps_ost (pv 0) (pv 1)), ?_⟩
    exact ⟨_, rfl, _, rfl, a, C, rfl, T, hn, .inl ⟨ha, fun dx nd ne => q dx nd ne⟩⟩
/-- what is known of the class -/
structure MalC (K : PySem.W.Frag) (mg : Str → Option Value) (C fI : Addr) : Prop where
  gc : mg "Malformed" = some (.ref C)
  T : OexC K C
  na : PySem.W.findIn K (.ref C) "at" = some none
  iC : PySem.W.findIn K (.ref C) "__init__" = some (some (.ref fI))
  tI : PySem.W.typeIn K (.ref fI) = some (.type "function")
theorem mal_made {C : Addr} {v : V} {H : Hp} {E : XK} (T : OexC K C) (hn : PySem.W.findIn K (.ref C) "at" = some none) (q : ∀ d H', Same H H' → H d = none → H' d = some (.xd [(("at" : Str), v)]) → E (.ref C) (some d) H') :
    ([v] : List V).length ≤ 1000 ∧ ∀ a, H a = none → spInitM K (.ref a :: ([v] ++ [])) (upd H a (exo a C none))
      (fun u H2 => u = .non ∧ ∃ (d : Addr) (fs : List (Str × V)), H2 a = some (exo a C (some d)) ∧ H2 d = some (exd d fs) ∧ H d = none ∧ E (.ref C) (some d) (upd (del H2 a) d (.xd fs))) (fun _ _ _ => False) := by
  refine ⟨(by show 1 ≤ 1000; decide), fun a na => ⟨a, C, v, rfl, T, hn, upd_same, fun dx nd ne => ⟨rfl, dx, [(("at" : Str), v)], upd_same, ?_, ?_, ?_⟩⟩⟩
  · rw [upd_ne ne, upd_same]
  · rwa [upd_ne ne] at nd
  · have nd2 : H dx = none := by rwa [upd_ne ne] at nd
    refine q dx _ (fun b o hb => ?_) nd2 upd_same
    have b1 : b ≠ dx := ne_of_none hb nd2
    have b2 : b ≠ a := ne_of_none hb na
    rw [upd_ne b1, del_ne b2, upd_ne b2, upd_ne b1, upd_ne b2]
    exact hb
end

open PySem.StrLaws PySem.Builtin PySem.Builtin.Str in
theorem sw_minus {x : Str} : Txt.startswith x "-" = true ↔ ∃ l, x.cps.toList = 45 :: l := by
  have e : ("-" : Str).cps = #[45] := by decide +kernel
  unfold Txt.startswith subAt
  rw [Bool.and_eq_true, decide_eq_true_iff, beq_iff_eq, show ("-" : Str).length = 1 by decide +kernel, e]
  constructor
  · rintro ⟨h, g⟩
    have := congrArg Array.toList g
    rw [Array.toList_extract] at this
    cases c : x.cps.toList with
    | nil =>
      rw [c] at this
      simp [List.extract] at this
    | cons a l =>
      rw [c] at this
      simp [List.extract] at this
      exact ⟨l, by rw [this]⟩
  · rintro ⟨l, h⟩
    have hl : x.length = (45 :: l).length := by rw [← h]; simp [Str.length]
    refine ⟨by rw [hl, List.length_cons]; omega, ?_⟩
    refine Array.toList_inj.mp ?_
    rw [Array.toList_extract, h]
    simp [List.extract]
theorem rp_minus {x : Str} {l : List Nat} (h : x.cps.toList = 45 :: l) : (Txt.removeprefix x "-").cps.toList = l := by
  have e := sw_minus.mpr ⟨l, h⟩
  unfold Txt.startswith at e
  rw [PySem.StrLaws.removeprefix_eq, if_pos e, h, show ("-" : Str).length = 1 by decide +kernel]
  have hl : x.length = (45 :: l).length := by rw [← h]; simp [Str.length]
  show (List.drop 1 (45 :: l)).take (x.length - 1) = l
  rw [hl, List.length_cons, List.drop_succ_cons, List.drop_zero, Nat.add_sub_cancel, List.take_length]
theorem rp_none {x : Str} (h : Txt.startswith x "-" = false) : Txt.removeprefix x "-" = x := by
  unfold Txt.startswith at h
  rw [PySem.StrLaws.removeprefix_eq, if_neg (by rw [h]; exact Bool.false_ne_true)]
/-- the figures of a word -/
abbrev figs (x : Str) : List Nat := (Txt.removeprefix x "-").cps.toList
def intW (x : Str) : Bool := if Txt.isascii (Txt.removeprefix x "-") = true then Txt.isdigit (Txt.removeprefix x "-") else false
theorem dig_range : ∀ c, c < 128 → Unicode.isDigit c = true → 48 ≤ c ∧ c ≤ 57 := by decide +kernel
theorem intW_figs {x : Str} (h : intW x = true) : PySem.NumText.AllDigits (figs x) ∧ figs x ≠ [] := by
  unfold intW at h
  by_cases c : Txt.isascii (Txt.removeprefix x "-") = true
  · rw [if_pos c] at h
    unfold Txt.isascii at c
    unfold Txt.isdigit at h
    rw [← Array.all_toList, List.all_eq_true] at c
    rw [Bool.and_eq_true, ← Array.all_toList, List.all_eq_true, decide_eq_true_iff] at h
    refine ⟨fun k hk => dig_range k (of_decide_eq_true (c k hk)) (h.2 k hk), fun z => ?_⟩
    have h1 := h.1
    have : (Txt.removeprefix x "-").length = (figs x).length := by simp [Str.length]
    rw [this, z] at h1
    exact absurd h1 (by decide)
  · rw [if_neg c] at h
    exact nomatch h
theorem figs_len (x : Str) : (Txt.removeprefix x "-").length = (figs x).length := by simp [Str.length]
theorem shortW_int (x : Str) : shortW x = (intW x && decide (((figs x).length : Int) ≤ 60)) := by
  unfold shortW intW
  rw [figs_len]
  by_cases c : Txt.isascii (Txt.removeprefix x "-") = true
  · rw [if_pos c, if_pos c]
    by_cases d : Txt.isdigit (Txt.removeprefix x "-") = true
    · rw [if_pos d, d]
      rfl
    · rw [if_neg d, Bool.not_eq_true _ |>.mp d]
      rfl
  · rw [if_neg c, if_neg c]
    rfl
/-- the integer of a word, from its figures -/
def valW (x : Str) : Int := if Txt.startswith x "-" = true then -((PySem.NumText.digitsVal (figs x) : Nat) : Int) else ((PySem.NumText.digitsVal (figs x) : Nat) : Int)
theorem valW_int {x : Str} (h : intW x = true) (hl : x.length ≤ 4300) : intText? x = some (valW x) := by
  obtain ⟨ad, ne⟩ := intW_figs h
  unfold valW
  by_cases c : Txt.startswith x "-" = true
  · obtain ⟨l, e⟩ := sw_minus.mp c
    have ef : figs x = l := rp_minus e
    rw [if_pos c, ef]
    rw [ef] at ad ne
    exact PySem.intText_neg e ad ne hl
  · rw [if_neg c]
    have ef := rp_none (Bool.not_eq_true _ |>.mp c)
    unfold figs at ad ne ⊢
    rw [ef] at ad ne ⊢
    exact PySem.intText_digits ad ne hl
theorem rg_none (N : Nat) (h : N ≤ 60) : RgC (N : Int) (N : Int) 60 0 := by
  have : ∀ k, k < 61 → (Builtin.Range.small ((k : Nat) : Int) ((k : Nat) : Int) 60 = true ∧ Builtin.Range.rangeSize ((k : Nat) : Int) ((k : Nat) : Int) 60 = ((0 : Nat) : Int)) := by decide +kernel
  exact ⟨by decide, by decide, this N (by omega)⟩
theorem rg_one : RgC 0 60 60 1 := ⟨by decide, by decide, by decide +kernel, by decide +kernel⟩
theorem cut_to {g : Str} {N : Nat} (h : g.length = N) : cutS g none (some (N : Int)) = g := by
  have e : g.cps.toList.length = N := by rw [← h]; simp [Str.length]
  unfold cutS
  rw [HT.sIx_none, HT.sIx_nat, List.drop_zero, Nat.sub_zero, h, Nat.min_self, ← e, List.take_length]
theorem cut_none (g : Str) : cutS g none (some 0) = "" := by
  have e := HT.sIx_nat g.length g.length 0
  unfold cutS
  rw [HT.sIx_none, show (some (0 : Int)) = some ((0 : Nat) : Int) from rfl, e]
  rfl
theorem cut_ft {g : Str} {N : Nat} (h : g.length = N) : cutS g (some 0) (some (N : Int)) = g := by
  have e : g.cps.toList.length = N := by rw [← h]; simp [Str.length]
  have e2 := HT.sIx_nat g.length 0 0
  unfold cutS
  rw [show (some (0 : Int)) = some ((0 : Nat) : Int) from rfl, e2, HT.sIx_nat]
  show (⟨((g.cps.toList.drop (min 0 g.length)).take (min N g.length - min 0 g.length)).toArray⟩ : Str) = g
  rw [Nat.zero_min, List.drop_zero, Nat.sub_zero, h, Nat.min_self, ← e, List.take_length]
theorem zero_fig {g : Str} (ad : PySem.NumText.AllDigits g.cps.toList) (hl : g.length ≤ 4000) : intText? (("0" : Str) ++ g) = some ((PySem.NumText.digitsVal g.cps.toList : Nat) : Int) := by
  have e : (("0" : Str) ++ g).cps.toList = 48 :: g.cps.toList := by
    rw [Str.cps_append, Array.toList_append]
    rfl
  have := PySem.intText_digits (x := ("0" : Str) ++ g) (by
    rw [e]
    intro c hc
    rcases List.mem_cons.mp hc with rfl | hc
    · exact ⟨by omega, by omega⟩
    · exact ad c hc) (by rw [e]; exact List.cons_ne_nil _ _) (by
    have : (("0" : Str) ++ g).length = (("0" : Str) ++ g).cps.toList.length := by simp [Str.length]
    have h2 : g.length = g.cps.toList.length := by simp [Str.length]
    rw [this, e, List.length_cons]
    omega)
  rw [this, e]
  rfl
section
variable {P : Program} {w : World} {K : PySem.W.Frag} {mg : Str → Option Value} {base : Heap}
/-! ### _figure_count, _is_integer, _integer_of -/
def spFig : Sp := fun vs H Q _ => ∃ t : Str, vs = [.str t] ∧ t.length ≤ 5000 ∧ Q (.int ((figs t).length : Nat)) H
theorem ok_figure_count_ {f : Addr} {fd : FuncData} (F : Fun K "_figure_count" "_figure_count" s_figure_count_ f fd) (z_len : mg "len" = none) : FnOk P w K mg base CX0 1 f fd ["word"] spFig := by
  refine F.ok sc_figure_count_ (fun vs H Q E h => ?_) (fun cdv A outer s H vs Q E hr h => ?_)
  · obtain ⟨k, rfl, _⟩ := h
    rfl
  · obtain ⟨t, rfl, hl, q⟩ := h
    refine ⟨_, (pss_one (ps_ret (pe_callB call_len_str (by rfl) z_len boot_len (pa_cons (pe_bm PySem.F.plainAttrs_str PySem.F.slot_str_removeprefix PySem.F.type_str_removeprefix mt_removeprefix (pv 0) (pa_cons pe_str pa_nil)) pa_nil)))), ?_⟩
    have szl : 20000 ≤ sizeLine := by decide
    have hg := rp_len t "-"
    refine ⟨_, rfl, rfl, t, _, rfl, rfl, (by omega), _, rfl, (by omega), ?_⟩
    rw [figs_len]
    exact q
def spIsInt : Sp := fun vs H Q _ => ∃ t : Str, vs = [.str t] ∧ t.length ≤ 5000 ∧ Q (.bl (intW t)) H
theorem ok_is_integer_ {f : Addr} {fd : FuncData} (F : Fun K "_is_integer" "_is_integer" s_is_integer_ f fd) : FnOk P w K mg base CX0 1 f fd ["word"] spIsInt := by
  refine F.ok sc_is_integer_ (fun vs H Q E h => ?_) (fun cdv A outer s H vs Q E hr h => ?_)
  · obtain ⟨k, rfl, _⟩ := h
    rfl
  · obtain ⟨t, rfl, hl, q⟩ := h
    refine ⟨_, (pss_cons (ps_set (i := 1) sc_is_integer_.nd rfl (.inl rfl) (pe_bm PySem.F.plainAttrs_str PySem.F.slot_str_removeprefix PySem.F.type_str_removeprefix mt_removeprefix (pv 0) (pa_cons pe_str pa_nil)))
  (pss_one (ps_ret (pe_and (pe_bm0 PySem.F.plainAttrs_str PySem.F.slot_str_isascii PySem.F.type_str_isascii mt_isascii (pv 1)) (pe_one (pe_m0 PySem.F.slot_str_isdigit PySem.F.type_str_isdigit mt_isdigit (pv 1))))))), ?_⟩
    have szl : 20000 ≤ sizeLine := by decide
    refine ⟨_, rfl, rfl, t, _, rfl, rfl, (by omega), ?_⟩
    unfold intW at q
    revert q
    generalize Txt.removeprefix t "-" = g
    intro q
    refine ⟨_, rfl, rfl, g, rfl, rfl, trivial, ?_⟩
    by_cases e : Txt.isascii g = true
    · rw [if_pos e] at q
      rw [e]
      exact ⟨_, rfl, iteT ⟨_, rfl, ⟨_, rfl⟩, g, rfl, rfl, trivial, q⟩⟩
    · rw [if_neg e] at q
      rw [eq_false_of_ne_true e]
      exact ⟨_, rfl, iteF q⟩
def spIntOf : Sp := fun vs H Q _ => ∃ t : Str, vs = [.str t] ∧ t.length ≤ 5000 ∧ intW t = true ∧ (figs t).length ≤ 60 ∧ Q (.int (valW t)) H
theorem ok_integer_of_ {f : Addr} {fd : FuncData} {tf tc : Tok} (F : Fun K "_integer_of" "_integer_of" s_integer_of_ f fd) (z_len : mg "len" = none) (z_int : mg "int" = none) (z_range : mg "range" = none)
    (m_CHUNK_FIGURES : mg "CHUNK_FIGURES" = some (.int 60 tf)) (m_CHUNK : mg "CHUNK" = some (.int (10 ^ 60) tc)) : FnOk P w K mg base CX0 1 f fd ["word"] spIntOf := by
  have r_CHUNK_FIGURES : RelV (.int 60) (.int 60 tf) := ⟨_, rfl⟩
  have r_CHUNK : RelV (.int (10 ^ 60)) (.int (10 ^ 60) tc) := ⟨_, rfl⟩
  refine F.ok sc_integer_of_ (fun vs H Q E h => ?_) (fun cdv A outer s H vs Q E hr h => ?_)
  · obtain ⟨k, rfl, _⟩ := h
    rfl
  · obtain ⟨t, rfl, hl, iw, hf, q⟩ := h
    refine ⟨_, (pss_cons (ps_set (i := 1) sc_integer_of_.nd rfl (.inl rfl) (pe_bm PySem.F.plainAttrs_str PySem.F.slot_str_removeprefix PySem.F.type_str_removeprefix mt_removeprefix (pv 0) (pa_cons pe_str pa_nil)))
  (pss_cons (ps_set (i := 2) sc_integer_of_.nd rfl (.inl rfl) (pe_op op_mod (pe_callB call_len_str (by rfl) z_len boot_len (pa_cons (pv 1) pa_nil)) (pe_glob rfl m_CHUNK_FIGURES r_CHUNK_FIGURES)))
  (pss_cons (ps_set (i := 3) sc_integer_of_.nd rfl (.inl rfl) (pe_callTy call_int_str (by rfl) z_int boot_int (pa_cons (pe_op op_add_str pe_str (pe_slice sl_str (pv 1) po_none (po_some (pv 2)))) pa_nil)))
  (pss_cons (ps_for PassesOwn.never rfl (pi_range3 rfl z_range (pa_cons (pv 2) (pa_cons (pe_callB call_len_str (by rfl) z_len boot_len (pa_cons (pv 1) pa_nil)) (pa_cons (pe_glob rfl m_CHUNK_FIGURES r_CHUNK_FIGURES) pa_nil)))) (pg_name (i := 4) sc_integer_of_.nd rfl (.inl rfl)) (pss_one (ps_set (i := 3) sc_integer_of_.nd rfl (.inl rfl) (pe_op op_add (pe_op op_mul (pv 3) (pe_glob rfl m_CHUNK r_CHUNK)) (pe_callTy call_int_str (by rfl) z_int boot_int (pa_cons (pe_slice sl_str (pv 1) (po_some (pv 4)) (po_some (pe_op op_add (pv 4) (pe_glob rfl m_CHUNK_FIGURES r_CHUNK_FIGURES)))) pa_nil))))))
  (pss_one (ps_ret (pe_ifExp (pt_val (pe_bm PySem.F.plainAttrs_str PySem.F.slot_str_startswith PySem.F.type_str_startswith mt_startswith (pv 0) (pa_cons pe_str pa_nil))) (pe_un un_neg (pv 3)) (pv 3)))))))), ?_⟩
    have szl : 20000 ≤ sizeLine := by decide
    have hg := rp_len t "-"
    obtain ⟨ad, ne⟩ := intW_figs iw
    have hlen := figs_len t
    refine ⟨_, rfl, rfl, t, _, rfl, rfl, (by omega), ?_⟩
    unfold valW figs at q
    unfold figs at ad ne hf hlen
    revert q ad ne hf hg hlen
    generalize Txt.removeprefix t "-" = g
    intro hf q hg ad ne hlen
    have fin : ∀ {H' : Hp} {v4 : Option V}, H' = H → (tRet (tIf (tB (tBM (cxOf CX0 P w K mg base ["word", "figures", "first", "found", "at"] "_integer_of" (defScope s_integer_of_) f cdv A outer s H E).nox.K "str" (fun x xs H Q => ∃ a b, x = V.str a ∧ xs = [V.str b] ∧ Q (V.bl (Txt.startswith a b)) H) (tVar 0) (tCons (tC (V.str ("-" : Str))) tNil)))
                    (tUn (rU fun i => V.int (-i)) (tVar 3)) (tVar 3))) { nx := fun x H' => Q V.non H', rt := Q } [some (.str t), some (.str g), some (.int (((g.cps.toList.length % 60 : Nat)) : Int)), some (.int ((PySem.NumText.digitsVal g.cps.toList : Nat) : Int)), v4] H' := fun {H' v4} e => by
      subst e
      refine ⟨_, rfl, rfl, t, _, rfl, rfl, _, rfl, ?_⟩
      by_cases c : Txt.startswith t "-" = true
      · rw [if_pos c] at q
        exact if_pos_of c ⟨_, rfl, _, rfl, q⟩
      · rw [if_neg c] at q
        exact if_neg_of c ⟨_, rfl, q⟩
    have gl : g.length = g.cps.toList.length := hlen
    have e60 : ((g.cps.toList.length : Nat) : Int) % 60 = ((g.cps.toList.length % 60 : Nat) : Int) := by omega
    refine ⟨_, rfl, g, rfl, by omega, _, _, rfl, rfl, (show (0 : Int) < 60 by decide), ?_⟩
    dsimp only
    rw [gl, e60]
    by_cases c : g.cps.toList.length = 60
    · have c2 : g.cps.toList.length % 60 = 0 := by omega
      refine ⟨_, rfl, _, rfl, _, rfl, g, rfl, by omega, ?_⟩
      rw [c2, show ((0 : Nat) : Int) = 0 from rfl, cut_none]
      refine ⟨_, _, rfl, rfl, by decide, _, 0, rfl, by decide +kernel, by decide, ?_⟩
      rw [c2] at fin
      refine ⟨_, rfl, _, rfl, g, rfl, by omega, _, _, _, 1, rfl, by rw [gl, c]; exact rg_one, for_it walk_rangeC (fun i σ H' => ∃ v4, σ = [some (.str t), some (.str g), some (.int 0), some (.int (if i = 0 then 0 else ((PySem.NumText.digitsVal g.cps.toList : Nat) : Int))), v4] ∧ H' = H) ⟨none, rfl, rfl⟩ (fun i σ H' _ _ => trivial) (fun i y σ H2 H3 hi hP hy => ?_) (fun σ H' hP => ?_)⟩
      · obtain ⟨v4, rfl, rfl⟩ := hP
        obtain ⟨rfl, rfl⟩ := hy
        obtain rfl : i = 0 := by omega
        have ef := cut_ft (N := 60) (g := g) (by omega)
        have ei := PySem.intText_digits ad ne (by omega)
        have cm : CMul 0 (10 ^ 60) := .inl ⟨by decide, by decide⟩
        refine ⟨_, rfl, _, _, rfl, rfl, cm, _, rfl, _, rfl, _, rfl, _, rfl, _, _, rfl, rfl, _, rfl, g, rfl, by omega, _, ((PySem.NumText.digitsVal g.cps.toList : Nat) : Int), rfl, ?_, ?_, _, _, rfl, rfl, ?_⟩
        · exact (congrArg intText? ef).trans ei
        · rw [show cutS g (some (0 + ((0 : Nat) : Int) * 60)) (some (0 + ((0 : Nat) : Int) * 60 + 60)) = g from ef]
          omega
        · refine ⟨some (.int 0), ?_, rfl⟩
          have e : (0 : Int) * 10 ^ 60 + ((PySem.NumText.digitsVal g.cps.toList : Nat) : Int) = ((PySem.NumText.digitsVal g.cps.toList : Nat) : Int) := by omega
          show ([some (.str t), some (.str g), some (.int 0), some (.int ((0 : Int) * 10 ^ 60 + ((PySem.NumText.digitsVal g.cps.toList : Nat) : Int))), some (.int 0)] : List (Option V)) = [some (.str t), some (.str g), some (.int 0), some (.int ((PySem.NumText.digitsVal g.cps.toList : Nat) : Int)), some (.int 0)]
          rw [e]
      · obtain ⟨v4, rfl, rfl⟩ := hP
        exact fin rfl
    · have c2 : g.cps.toList.length % 60 = g.cps.toList.length := by omega
      refine ⟨_, rfl, _, rfl, _, rfl, g, rfl, by omega, ?_⟩
      rw [c2, cut_to gl]
      refine ⟨_, _, rfl, rfl, by show 1 + _ ≤ _; omega, _, _, rfl, zero_fig ad (by omega), by rw [len_cat]; show 1 + g.length ≤ 640; omega, ?_⟩
      rw [c2] at fin
      refine ⟨_, rfl, _, rfl, g, rfl, by omega, _, _, _, 0, rfl, by rw [gl]; exact rg_none _ hf, for_it walk_rangeC (fun i σ H' => ∃ v4, σ = [some (.str t), some (.str g), some (.int (g.cps.toList.length : Nat)), some (.int ((PySem.NumText.digitsVal g.cps.toList : Nat) : Int)), v4] ∧ H' = H) ⟨none, rfl, rfl⟩ (fun i σ H' _ _ => trivial) (fun i y σ H2 H3 hi hP hy => absurd hi (Nat.not_lt_zero i)) (fun σ H' hP => ?_)⟩
      · obtain ⟨v4, rfl, rfl⟩ := hP
        exact fin rfl
end

/-- what is read of a text, None where there is none -/
def rdInt (w : Str) : Int := (intText? w).getD 0
def rdPair (ws : List Str) : Int × Int := (rdInt (ws.getD 0 ""), if ws.length = 2 then rdInt (ws.getD 1 "") else 1)
def readOk (p : Int) (t : Str) : Option (Int × Int) := if 2 < (Txt.split t "/").length then none else if (Txt.split t "/").all shortW = false then none else
  if isN p (rdPair (Txt.split t "/")).1 (rdPair (Txt.split t "/")).2 = false then none else if numTx (rdPair (Txt.split t "/")).1 (rdPair (Txt.split t "/")).2 = t then some (rdPair (Txt.split t "/")) else none
def wOk (w : Str) : Bool := match intText? w with
  | some n => decide (n.natAbs < 10 ^ 60)
  | none => false
def rdPre (t : Str) : Bool := decide (1 ≤ (Txt.split t "/").length) && (decide ((Txt.split t "/").length ≤ 1000) && (Txt.split t "/").all (fun w => decide (w.length ≤ 500) && (!shortW w || wOk w)))
theorem wOk_int {w : Str} (h : wOk w = true) : intText? w = some (rdInt w) ∧ (rdInt w).natAbs < 10 ^ 60 := by
  unfold wOk at h
  unfold rdInt
  cases e : intText? w with
  | none =>
    rw [e] at h
    exact nomatch h
  | some n =>
    rw [e] at h
    exact ⟨rfl, of_decide_eq_true h⟩
theorem none_back {H H' : Hp} {a : Addr} (s : Same H H') (h : H' a = none) : H a = none := by
  cases e : H a with
  | none => rfl
  | some o =>
    rw [s _ _ e] at h
    exact nomatch h
theorem short_fig {x : Str} (h : (figs x).length ≤ 60) : intW x = shortW x := by
  rw [shortW_int, decide_eq_true (by omega), Bool.and_true]
theorem val_rd {x : Str} (h : intW x = true) (hl : x.length ≤ 4300) : valW x = rdInt x := by
  unfold rdInt
  rw [valW_int h hl]
  rfl
section
variable {P : Program} {w : World} {K : PySem.W.Frag} {mg : Str → Option Value} {base : Heap}
/-! ### read_any_number, read_number -/
def spRead (K : PySem.W.Frag) (CW CM : Addr) : Sp := fun vs H Q E => ∃ (x : Addr) (p d : Int) (t : Str), vs = [.ref x, .str t] ∧ SqT K H x [.int p, .int d] ∧ t.length ≤ 500 ∧ rdPre t = true ∧ (isW p d = false → E (.ref CW) none H) ∧
  (isW p d = true → readOk p t = none → ∀ dd H', Same H H' → H dd = none → H' dd = some (.xd [(("at" : Str), .int 0)]) → E (.ref CM) (some dd) H') ∧
  (isW p d = true → ∀ a b, readOk p t = some (a, b) → ∀ r H', Same H H' → H' r = some (.tup [.int a, .int b]) → Q (.ref r) H')
def spReadAny (K : PySem.W.Frag) (CM : Addr) : Sp := fun vs H Q E => ∃ (x : Addr) (p d : Int) (t : Str), vs = [.ref x, .str t] ∧ SqT K H x [.int p, .int d] ∧ t.length ≤ 500 ∧ rdPre t = true ∧ isW p d = true ∧ (∀ w ∈ Txt.split t "/", (figs w).length ≤ 60) ∧
  (readOk p t = none → ∀ dd H', Same H H' → H dd = none → H' dd = some (.xd [(("at" : Str), .int 0)]) → E (.ref CM) (some dd) H') ∧
  (∀ a b, readOk p t = some (a, b) → ∀ r H', Same H H' → H' r = some (.tup [.int a, .int b]) → Q (.ref r) H')
theorem ok_read_any_number {f CW CN CM fI : Addr} {fd fdI : FuncData} (F : Fun K "read_any_number" "read_any_number" s_read_any_number f fd) (z_len : mg "len" = none) (z_all : mg "all" = none)
    (OX_Malformed : MalC K mg CM fI) (G_Malformed_init : FnOk P w K mg base CX0 1 fI fdI ["self", "at"] (spInitM K)) (b_Malformed_init : Binds K fdI ["self", "at"] [])
    {a_is_number : Addr} {fd_is_number : FuncData} (G_is_number : FnOk P w K mg base (L2.CX P w) 3 a_is_number fd_is_number ["world", "x"] (spIsNumber K CW)) (g_is_number : mg "is_number" = some (.ref a_is_number)) (k_is_number : PySem.W.keepIn K (.ref a_is_number) = true) (b_is_number : Binds K fd_is_number ["world", "x"] [])
    {a_number_text : Addr} {fd_number_text : FuncData} (G_number_text : FnOk P w K mg base (L2.CX P w) 5 a_number_text fd_number_text ["world", "x"] (spNumText K CW CN)) (g_number_text : mg "number_text" = some (.ref a_number_text)) (k_number_text : PySem.W.keepIn K (.ref a_number_text) = true) (b_number_text : Binds K fd_number_text ["world", "x"] [])
    {a_is_integer_ : Addr} {fd_is_integer_ : FuncData} (G_is_integer_ : FnOk P w K mg base CX0 1 a_is_integer_ fd_is_integer_ ["word"] spIsInt) (g_is_integer_ : mg "_is_integer" = some (.ref a_is_integer_)) (k_is_integer_ : PySem.W.keepIn K (.ref a_is_integer_) = true) (b_is_integer_ : Binds K fd_is_integer_ ["word"] [])
    {a_integer_of_ : Addr} {fd_integer_of_ : FuncData} (G_integer_of_ : FnOk P w K mg base CX0 1 a_integer_of_ fd_integer_of_ ["word"] spIntOf) (g_integer_of_ : mg "_integer_of" = some (.ref a_integer_of_)) (k_integer_of_ : PySem.W.keepIn K (.ref a_integer_of_) = true) (b_integer_of_ : Binds K fd_integer_of_ ["word"] []) :
    FnOk P w K mg base (L2.CX P w) 6 f fd ["world", "text"] (spReadAny K CM) := by
  refine F.okX sc_read_any_number (fun vs H Q E h => ?_) (fun cdv A outer s H vs Q E hr h => ?_)
  · obtain ⟨x, p, d, t, rfl, _⟩ := h
    rfl
  · obtain ⟨x, p, d, t, rfl, hx, ht, hpre, ew, fg, r2, r3⟩ := h
    refine ⟨_, (pss_cons (ps_set (i := 2) sc_read_any_number.nd rfl (.inl rfl) (pe_split (pv 1) pe_str))
  (pss_cons (ps_if (L2.PW.pt (pw_or (pt_cmpR op_gt (pe_callB call_len_seq (by rfl) z_len boot_len (pa_cons (pv 2) pa_nil)) pe_int (nomark _)) (pw_or1 (pt_not (pt_val (pe_callB (cr_all rfl) (by rfl) z_all boot_all (pa_cons (pe_lc (own := [("word", 4)]) rfl sc_read_any_number.nd (pi_list (pv 2)) (blkOk_by (N := ["world", "text", "words", "x", "word"]) (sc := defScope s_read_any_number) (by first | decide +kernel | rfl)) (fun _ _ _ _ _ => (pg_name (i := 4) sc_read_any_number.nd rfl (.inl rfl))) (fun _ _ _ _ _ => pts_nil) (fun _ _ _ _ _ => (pe_call G_is_integer_ (hr.mono (by decide)) rfl g_is_integer_ k_is_integer_ b_is_integer_ .nil pass0 (pa_cons (pv 4) pa_nil)))) pa_nil))))))) (pss_one (ps_raise rfl (takes_of rfl rfl rfl rfl) (pmk_oex OX_Malformed.T OX_Malformed.iC OX_Malformed.tI G_Malformed_init (hr.mono (by decide)) b_Malformed_init .nil pass0 rfl OX_Malformed.gc (pa_cons pe_int pa_nil)))) pss_nil)
  (pss_cons (ps_set (i := 3) sc_read_any_number.nd rfl (.inl rfl) (pe_tup (pa_cons (pe_call G_integer_of_ (hr.mono (by decide)) rfl g_integer_of_ k_integer_of_ b_integer_of_ .nil pass0 (pa_cons (pe_ix ix_list (pv 2) pe_int (fun _ _ => rfl)) pa_nil)) (pa_cons (pe_ifExp (pt_cmpR op_eq (pe_callB call_len_seq (by rfl) z_len boot_len (pa_cons (pv 2) pa_nil)) pe_int (nomark _)) (pe_call G_integer_of_ (hr.mono (by decide)) rfl g_integer_of_ k_integer_of_ b_integer_of_ .nil pass0 (pa_cons (pe_ix ix_list (pv 2) pe_int (fun _ _ => rfl)) pa_nil)) pe_int) pa_nil))))
  (pss_cons (ps_if (L2.PW.pt (pw_or (pt_not (pt_val (pe_call G_is_number (hr.mono (by decide)) rfl g_is_number k_is_number b_is_number .nil (passes_call (takes_of rfl rfl rfl rfl) (fun _ _ _ _ h => h)) (pa_cons (pv 0) (pa_cons (pv 3) pa_nil))))) (pw_or1 (pt_cmpR op_ne (pe_call G_number_text (hr.mono (by decide)) rfl g_number_text k_number_text b_number_text .nil (passes_call (takes_of rfl rfl rfl rfl) (fun _ _ _ _ h => h)) (pa_cons (pv 0) (pa_cons (pv 3) pa_nil))) (pv 1) (nomark _))))) (pss_one (ps_raise rfl (takes_of rfl rfl rfl rfl) (pmk_oex OX_Malformed.T OX_Malformed.iC OX_Malformed.tI G_Malformed_init (hr.mono (by decide)) b_Malformed_init .nil pass0 rfl OX_Malformed.gc (pa_cons pe_int pa_nil)))) pss_nil)
  (pss_one (ps_ret (pv 3))))))), ?_⟩
    have szl : 2000 ≤ sizeLine := by decide
    unfold rdPre at hpre
    unfold readOk at r2 r3
    refine ⟨_, rfl, ⟨_, rfl⟩, _, _, rfl, rfl, rfl, (by omega), fun r nr => ?_⟩
    revert r2 r3 hpre fg
    generalize Txt.split t "/" = l
    intro hpre fg r2 r3
    rw [Bool.and_eq_true, Bool.and_eq_true, decide_eq_true_eq, decide_eq_true_eq, List.all_eq_true] at hpre
    obtain ⟨l1, l2, lw⟩ := hpre
    have lw1 : ∀ w ∈ l, w.length ≤ 500 := fun w hw => by
      have := lw w hw
      rw [Bool.and_eq_true] at this
      exact of_decide_eq_true this.1
    have lw2 : ∀ w ∈ l, shortW w = true → wOk w = true := fun w hw hs => by
      have := lw w hw
      rw [Bool.and_eq_true, hs] at this
      exact this.2
    have s1 : Same H (upd H r (.lst (l.map V.str))) := same_upd nr
    have hr1 : upd H r (.lst (l.map V.str)) r = some (.lst (l.map V.str)) := upd_same
    revert s1 hr1
    generalize upd H r (.lst (l.map V.str)) = H1
    intro s1 hr1
    refine ⟨_, rfl, r, _, rfl, .inl (.inl (.inl hr1)), _, _, rfl, rfl, _, rfl, ?_⟩
    rw [List.length_map]
    by_cases c2 : 2 < l.length
    · rw [decide_eq_true (show ((l.length : Nat) : Int) > 2 by omega)]
      rw [if_pos c2] at r2
      exact iteT (iteT (mal_made OX_Malformed.T OX_Malformed.na fun dx H9 s9 nd9 hd9 => r2 rfl dx H9 (Same.trans s1 s9) (none_back s1 nd9) hd9))
    rw [decide_eq_false (show ¬ ((l.length : Nat) : Int) > 2 by omega)]
    rw [if_neg c2] at r2 r3
    refine iteF ?_
    refine ⟨_, rfl, r, rfl, ⟨_, .inl (.inl hr1)⟩, fun D nD => ?_⟩
    have hrD : r ≠ D := ne_of_none hr1 nD
    have msh : l.map intW = l.map shortW := List.map_congr_left fun w hw => short_fig (fg w hw)
    refine lc_list (xs := l.map V.str) (fun i H' => SameBut D H1 H' ∧ H' D = some (.lst (((l.take i).map intW).map V.bl))) ⟨SameBut.upd, upd_same⟩ (fun i H' hi hP => .inl (.inl (hP.1 _ _ hrD hr1))) (fun i y H' hi hP => ?_) (fun H' hP => ?_)
    · obtain ⟨sb, hD⟩ := hP
      rw [List.getElem?_map] at hi
      cases ew : l[i]? with
      | none =>
        rw [ew] at hi
        exact nomatch hi
      | some wd =>
        rw [ew] at hi
        have hy : V.str wd = y := Option.some.inj hi
        rw [← hy]
        obtain ⟨hlt, hget⟩ := List.getElem?_eq_some_iff.mp ew
        have hle := lw1 wd (hget ▸ List.getElem_mem hlt)
        refine ⟨rfl, ?_⟩
        refine ⟨_, rfl, wd, rfl, by omega, _, hD, ?_, sb.trans SameBut.upd, ?_⟩
        · rw [List.length_map, List.length_map, List.length_take]
          omega
        · rw [upd_same, List.take_succ, ew]
          show some (HO.lst (((l.take i).map intW).map V.bl ++ [V.bl (intW wd)])) = some (HO.lst (((l.take i ++ [wd]).map intW).map V.bl))
          rw [List.map_append, List.map_append]
          rfl
    · obtain ⟨sb, hD⟩ := hP
      rw [List.length_map, List.take_length, msh] at hD
      have hr2 := sb _ _ hrD hr1
      have sH : Same H H' := Same.trans s1 (fun c o e => sb _ _ (ne_of_none e nD) e)
      refine ⟨D, l.map shortW, rfl, .inl (.inl hD), ?_⟩
      refine ⟨_, rfl, ?_⟩
      have eall : (l.map shortW).all id = l.all shortW := by rw [List.all_map]; rfl
      rw [eall]
      by_cases ca : l.all shortW = false
      · rw [ca]
        rw [if_pos ca] at r2
        exact iteT (mal_made OX_Malformed.T OX_Malformed.na fun dx H9 s9 nd9 hd9 => r2 rfl dx H9 (Same.trans sH s9) (none_back sH nd9) hd9)
      rw [if_neg ca] at r2 r3
      have ca2 : l.all shortW = true := by
        cases e : l.all shortW with
        | true => rfl
        | false => exact absurd e ca
      rw [ca2]
      refine iteF ?_
      rw [List.all_eq_true] at ca2
      have tail : ∀ (a b : Int) (t' : Addr) (H5 : Hp), True := fun _ _ _ _ => trivial
      match l, l1, c2, lw1, lw2, ca2, hr2, fg, r2, r3 with
      | [w0], l1, c2, lw1, lw2, ca2, hr2, fg, r2, r3 =>
        have iw0 : intW w0 = true := (short_fig (fg w0 (by simp))).trans (ca2 w0 (by simp))
        have ev0 := val_rd iw0 (by have := lw1 w0 (by simp); omega)
        obtain ⟨ia, la⟩ := wOk_int (lw2 w0 (by simp) (ca2 w0 (by simp)))
        have h2 := lw1 w0 (by simp)
        have at0 : atI ([w0].map V.str) 0 = some (.str w0) := atI_nat (j := 0) rfl
        refine ⟨_, rfl, r, _, 0, .str w0, rfl, rfl, .inl (.inl hr2), at0, w0, rfl, by omega, iw0, fg w0 (by simp), ?_⟩
        rw [ev0]
        refine ⟨_, rfl, r, _, rfl, .inl (.inl (.inl hr2)), rfl, _, rfl, ?_⟩
        refine iteF ⟨(by show 2 ≤ sizeLine; decide), fun t1 nt => ?_⟩
        have r2' : (if isN p (rdInt w0) 1 = false then none else if numTx (rdInt w0) 1 = t then some (rdInt w0, (1 : Int)) else none) = none → _ := r2
        have r3' : ∀ a b, (if isN p (rdInt w0) 1 = false then none else if numTx (rdInt w0) 1 = t then some (rdInt w0, (1 : Int)) else none) = some (a, b) → _ := r3
        have lb : (1 : Int).natAbs < 10 ^ 60 := by decide
        revert la r2' r3' lb
        generalize rdInt w0 = a
        generalize (1 : Int) = b
        intro la r2' r3' lb
        have s5 : Same H (upd H' t1 (.tup [.int a, .int b])) := Same.trans sH (same_upd nt)
        have hx5 := sqT_same s5 hx
        have ht5 : upd H' t1 (.tup [.int a, .int b]) t1 = some (.tup [.int a, .int b]) := upd_same
        revert s5 hx5 ht5
        generalize upd H' t1 (.tup [.int a, .int b]) = H5
        intro s5 hx5 ht5
        refine ⟨_, rfl, _, rfl, x, t1, p, d, a, b, rfl, hx5, .inl (.inl ht5), fun _ => ?_, fun z => by rw [ew] at z; exact nomatch z⟩
        refine ⟨_, rfl, ?_⟩
        cases en : isN p a b with
        | false =>
          rw [en, if_pos rfl] at r2'
          exact iteT (iteT (mal_made OX_Malformed.T OX_Malformed.na fun dx H9 s9 nd9 hd9 => r2' rfl dx H9 (Same.trans s5 s9) (none_back s5 nd9) hd9))
        | true =>
          rw [en, if_neg (fun z => nomatch z)] at r2' r3'
          refine iteF ?_
          refine ⟨_, rfl, _, rfl, x, t1, p, d, a, b, rfl, hx5, .inl (.inl ht5), fun z => (by rw [ew] at z; exact nomatch z), fun _ z => (by rw [en] at z; exact nomatch z), fun _ _ => ⟨la, lb, fun H6 s6 => ?_⟩⟩
          refine ⟨_, rfl, rfl, _, rfl, ?_⟩
          by_cases ct : numTx a b = t
          · rw [if_pos ct] at r3'
            rw [decide_eq_true (congrArg V.str ct)]
            exact iteF ⟨_, rfl, r3' a b rfl t1 H6 (Same.trans s5 s6) (s6 _ _ ht5)⟩
          · rw [if_neg ct] at r2'
            rw [decide_eq_false (fun z => ct (V.str.inj z))]
            have s7 := Same.trans s5 s6
            exact iteT (mal_made OX_Malformed.T OX_Malformed.na fun dx H9 s9 nd9 hd9 => r2' rfl dx H9 (Same.trans s7 s9) (none_back s7 nd9) hd9)
      | [w0, w1], l1, c2, lw1, lw2, ca2, hr2, fg, r2, r3 =>
        have iw0 : intW w0 = true := (short_fig (fg w0 (by simp))).trans (ca2 w0 (by simp))
        have ev0 := val_rd iw0 (by have := lw1 w0 (by simp); omega)
        have iw1 : intW w1 = true := (short_fig (fg w1 (by simp))).trans (ca2 w1 (by simp))
        have ev1 := val_rd iw1 (by have := lw1 w1 (by simp); omega)
        obtain ⟨ia, la⟩ := wOk_int (lw2 w0 (by simp) (ca2 w0 (by simp)))
        obtain ⟨ib, lb⟩ := wOk_int (lw2 w1 (by simp) (ca2 w1 (by simp)))
        have h3 := lw1 w0 (by simp)
        have h4 := lw1 w1 (by simp)
        have at0 : atI ([w0, w1].map V.str) 0 = some (.str w0) := atI_nat (j := 0) rfl
        have at1 : atI ([w0, w1].map V.str) 1 = some (.str w1) := atI_nat (j := 1) rfl
        refine ⟨_, rfl, r, _, 0, .str w0, rfl, rfl, .inl (.inl hr2), at0, w0, rfl, by omega, iw0, fg w0 (by simp), ?_⟩
        rw [ev0]
        refine ⟨_, rfl, r, _, rfl, .inl (.inl (.inl hr2)), rfl, _, rfl, ?_⟩
        refine iteT ⟨_, rfl, r, _, 1, .str w1, rfl, rfl, .inl (.inl hr2), at1, w1, rfl, by omega, iw1, fg w1 (by simp), ?_⟩
        rw [ev1]
        refine ⟨(by show 2 ≤ sizeLine; decide), fun t1 nt => ?_⟩
        have r2' : (if isN p (rdInt w0) (rdInt w1) = false then none else if numTx (rdInt w0) (rdInt w1) = t then some (rdInt w0, rdInt w1) else none) = none → _ := r2
        have r3' : ∀ a b, (if isN p (rdInt w0) (rdInt w1) = false then none else if numTx (rdInt w0) (rdInt w1) = t then some (rdInt w0, rdInt w1) else none) = some (a, b) → _ := r3
        revert la r2' r3' lb
        generalize rdInt w0 = a
        generalize rdInt w1 = b
        intro la lb r2' r3'
        have s5 : Same H (upd H' t1 (.tup [.int a, .int b])) := Same.trans sH (same_upd nt)
        have hx5 := sqT_same s5 hx
        have ht5 : upd H' t1 (.tup [.int a, .int b]) t1 = some (.tup [.int a, .int b]) := upd_same
        revert s5 hx5 ht5
        generalize upd H' t1 (.tup [.int a, .int b]) = H5
        intro s5 hx5 ht5
        refine ⟨_, rfl, _, rfl, x, t1, p, d, a, b, rfl, hx5, .inl (.inl ht5), fun _ => ?_, fun z => by rw [ew] at z; exact nomatch z⟩
        refine ⟨_, rfl, ?_⟩
        cases en : isN p a b with
        | false =>
          rw [en, if_pos rfl] at r2'
          exact iteT (iteT (mal_made OX_Malformed.T OX_Malformed.na fun dx H9 s9 nd9 hd9 => r2' rfl dx H9 (Same.trans s5 s9) (none_back s5 nd9) hd9))
        | true =>
          rw [en, if_neg (fun z => nomatch z)] at r2' r3'
          refine iteF ?_
          refine ⟨_, rfl, _, rfl, x, t1, p, d, a, b, rfl, hx5, .inl (.inl ht5), fun z => (by rw [ew] at z; exact nomatch z), fun _ z => (by rw [en] at z; exact nomatch z), fun _ _ => ⟨la, lb, fun H6 s6 => ?_⟩⟩
          refine ⟨_, rfl, rfl, _, rfl, ?_⟩
          by_cases ct : numTx a b = t
          · rw [if_pos ct] at r3'
            rw [decide_eq_true (congrArg V.str ct)]
            exact iteF ⟨_, rfl, r3' a b rfl t1 H6 (Same.trans s5 s6) (s6 _ _ ht5)⟩
          · rw [if_neg ct] at r2'
            rw [decide_eq_false (fun z => ct (V.str.inj z))]
            have s7 := Same.trans s5 s6
            exact iteT (mal_made OX_Malformed.T OX_Malformed.na fun dx H9 s9 nd9 hd9 => r2' rfl dx H9 (Same.trans s7 s9) (none_back s7 nd9) hd9)
      | [], l1, _, _, _, _, _, _, _, _ => exact absurd l1 (by decide)
      | _ :: _ :: _ :: _, _, c2, _, _, _, _, _, _, _ => exact absurd (show 2 < _ from by simp) c2
theorem ok_read_number {f CW CM fI : Addr} {fd fdI : FuncData} {tF : Tok} (F : Fun K "read_number" "read_number" s_read_number f fd) (z_all : mg "all" = none) (m_MOST_FIGURES : mg "MOST_FIGURES" = some (.int 60 tF))
    (OX_Malformed : MalC K mg CM fI) (G_Malformed_init : FnOk P w K mg base CX0 1 fI fdI ["self", "at"] (spInitM K)) (b_Malformed_init : Binds K fdI ["self", "at"] [])
    {a_check_world : Addr} {fd_check_world : FuncData} (G_check_world : FnOk P w K mg base (L2.CX P w) 2 a_check_world fd_check_world ["world"] (spCheckWorld K CW)) (g_check_world : mg "check_world" = some (.ref a_check_world)) (k_check_world : PySem.W.keepIn K (.ref a_check_world) = true) (b_check_world : Binds K fd_check_world ["world"] [])
    {a_figure_count_ : Addr} {fd_figure_count_ : FuncData} (G_figure_count_ : FnOk P w K mg base CX0 1 a_figure_count_ fd_figure_count_ ["word"] spFig) (g_figure_count_ : mg "_figure_count" = some (.ref a_figure_count_)) (k_figure_count_ : PySem.W.keepIn K (.ref a_figure_count_) = true) (b_figure_count_ : Binds K fd_figure_count_ ["word"] [])
    {a_read_any_number : Addr} {fd_read_any_number : FuncData} (G_read_any_number : FnOk P w K mg base (L2.CX P w) 6 a_read_any_number fd_read_any_number ["world", "text"] (spReadAny K CM)) (g_read_any_number : mg "read_any_number" = some (.ref a_read_any_number)) (k_read_any_number : PySem.W.keepIn K (.ref a_read_any_number) = true) (b_read_any_number : Binds K fd_read_any_number ["world", "text"] []) :
    FnOk P w K mg base (L2.CX P w) 7 f fd ["world", "text"] (spRead K CW CM) := by
  have r_MOST_FIGURES : RelV (.int 60) (.int 60 tF) := ⟨_, rfl⟩
  refine F.okX sc_read_number (fun vs H Q E h => ?_) (fun cdv A outer s H vs Q E hr h => ?_)
  · obtain ⟨x, p, d, t, rfl, _⟩ := h
    rfl
  · obtain ⟨x, p, d, t, rfl, hx, ht, hpre, q1, q2, q3⟩ := h
    refine ⟨_, (pss_cons (ps_expr (pe_call G_check_world (hr.mono (by decide)) rfl g_check_world k_check_world b_check_world .nil (passes_call (takes_of rfl rfl rfl rfl) (fun _ _ _ _ h => h)) (pa_cons (pv 0) pa_nil)))
  (pss_cons (ps_if (pt_not (pt_val (pe_callB (cr_all rfl) (by rfl) z_all boot_all (pa_cons (pe_lc (own := [("word", 2)]) rfl sc_read_number.nd (pi_list (pe_split (pv 1) pe_str)) (blkOk_by (N := ["world", "text", "word"]) (sc := defScope s_read_number) (by first | decide +kernel | rfl)) (fun _ _ _ _ _ => (pg_name (i := 2) sc_read_number.nd rfl (.inl rfl))) (fun _ _ _ _ _ => pts_nil) (fun _ _ _ _ _ => (pe_cmpR op_le (pe_call G_figure_count_ (hr.mono (by decide)) rfl g_figure_count_ k_figure_count_ b_figure_count_ .nil pass0 (pa_cons (pv 2) pa_nil)) (pe_glob rfl m_MOST_FIGURES r_MOST_FIGURES) (nomark _)))) pa_nil)))) (pss_one (ps_raise rfl (takes_of rfl rfl rfl rfl) (pmk_oex OX_Malformed.T OX_Malformed.iC OX_Malformed.tI G_Malformed_init (hr.mono (by decide)) b_Malformed_init .nil pass0 rfl OX_Malformed.gc (pa_cons pe_int pa_nil)))) pss_nil)
  (pss_one (ps_ret (pe_call G_read_any_number (hr.mono (by decide)) rfl g_read_any_number k_read_any_number b_read_any_number .nil (passes_call (takes_of rfl rfl rfl rfl) (fun _ _ _ _ h => h)) (pa_cons (pv 0) (pa_cons (pv 1) pa_nil))))))), ?_⟩
    refine ⟨_, rfl, x, p, d, rfl, hx, fun ew => ?_, q1⟩
    have r2 := q2 ew
    have r3 := q3 ew
    have szl : 2000 ≤ sizeLine := by decide
    refine ⟨_, rfl, ⟨_, rfl⟩, _, _, rfl, rfl, rfl, (by omega), fun r nr => ?_⟩
    have pre := hpre
    unfold rdPre at hpre
    rw [Bool.and_eq_true, Bool.and_eq_true, decide_eq_true_eq, decide_eq_true_eq, List.all_eq_true] at hpre
    obtain ⟨l1, l2, lw⟩ := hpre
    have lw1 : ∀ w ∈ Txt.split t "/", w.length ≤ 500 := fun w hw => by
      have := lw w hw
      rw [Bool.and_eq_true] at this
      exact of_decide_eq_true this.1
    have long : (Txt.split t "/").all (fun w => decide ((figs w).length ≤ 60)) = false → readOk p t = none := fun e => by
      have : (Txt.split t "/").all shortW = false := by
        rw [← Bool.not_eq_true, List.all_eq_true] at e ⊢
        exact fun z => e fun w hw => by
          have := z w hw
          rw [shortW_int, Bool.and_eq_true, decide_eq_true_eq] at this
          exact decide_eq_true (by omega)
      unfold readOk
      rw [if_pos this]
      exact ite_self _
    have s1 : Same H (upd H r (.lst ((Txt.split t "/").map V.str))) := same_upd nr
    have hr1 : upd H r (.lst ((Txt.split t "/").map V.str)) r = some (.lst ((Txt.split t "/").map V.str)) := upd_same
    revert s1 hr1
    generalize upd H r (.lst ((Txt.split t "/").map V.str)) = H1
    intro s1 hr1
    refine ⟨r, rfl, ⟨_, .inl (.inl hr1)⟩, fun D nD => ?_⟩
    have hrD : r ≠ D := ne_of_none hr1 nD
    have fgo : ∀ w ∈ Txt.split t "/", (figs w).length ≤ 60 → True := fun _ _ _ => trivial
    generalize el : Txt.split t "/" = l at hr1 lw1 l1 l2 long
    refine lc_list (xs := l.map V.str) (fun i H' => SameBut D H1 H' ∧ H' D = some (.lst (((l.take i).map fun w => decide ((figs w).length ≤ 60)).map V.bl))) ⟨SameBut.upd, upd_same⟩ (fun i H' hi hP => .inl (.inl (hP.1 _ _ hrD hr1))) (fun i y H' hi hP => ?_) (fun H' hP => ?_)
    · obtain ⟨sb, hD⟩ := hP
      rw [List.getElem?_map] at hi
      cases ew : l[i]? with
      | none =>
        rw [ew] at hi
        exact nomatch hi
      | some wd =>
        rw [ew] at hi
        have hy : V.str wd = y := Option.some.inj hi
        rw [← hy]
        obtain ⟨hlt, hget⟩ := List.getElem?_eq_some_iff.mp ew
        have hle := lw1 wd (hget ▸ List.getElem_mem hlt)
        refine ⟨rfl, ?_⟩
        refine ⟨_, rfl, wd, rfl, by omega, _, _, rfl, rfl, _, hD, ?_, sb.trans SameBut.upd, ?_⟩
        · rw [List.length_map, List.length_map, List.length_take]
          omega
        · rw [upd_same, List.take_succ, ew, List.map_append, List.map_append]
          have e2 : decide (((figs wd).length : Int) ≤ 60) = decide ((figs wd).length ≤ 60) := decide_eq_decide.mpr (by omega)
          exact congrArg (fun b => some (HO.lst (List.map V.bl (List.map (fun w => decide ((figs w).length ≤ 60)) (List.take i l)) ++ [V.bl b]))) e2
    · obtain ⟨sb, hD⟩ := hP
      rw [List.length_map, List.take_length] at hD
      have sH : Same H H' := Same.trans s1 (fun c o e => sb _ _ (ne_of_none e nD) e)
      refine ⟨D, _, rfl, .inl (.inl hD), ?_⟩
      refine ⟨_, rfl, ?_⟩
      have eall : (l.map fun w => decide ((figs w).length ≤ 60)).all id = l.all fun w => decide ((figs w).length ≤ 60) := by rw [List.all_map]; rfl
      rw [eall]
      cases ca : l.all fun w => decide ((figs w).length ≤ 60) with
      | false => exact iteT (mal_made OX_Malformed.T OX_Malformed.na fun dx H9 s9 nd9 hd9 => r2 (long ca) dx H9 (Same.trans sH s9) (none_back sH nd9) hd9)
      | true =>
        rw [List.all_eq_true] at ca
        refine iteF ⟨_, rfl, _, rfl, x, p, d, t, rfl, sqT_same sH hx, ht, pre, ew, ?_, fun e dd H9 s9 nd9 hd9 => r2 e dd H9 (Same.trans sH s9) (none_back sH nd9) hd9, fun a b e rr H9 s9 hrr => r3 a b e rr H9 (Same.trans sH s9) hrr⟩
        rw [el]
        exact fun w hw => of_decide_eq_true (ca w hw)
end

/-- the text is that of the parts -/
structure RdOk (a b : Int) (t : Str) : Prop where
  ws : ∃ l : List Str, Txt.split t "/" = l ∧ ((∃ w0, l = [w0] ∧ shortW w0 = true ∧ intText? w0 = some a ∧ b = 1 ∧ w0.length ≤ 61) ∨
    ∃ w0 w1, l = [w0, w1] ∧ shortW w0 = true ∧ shortW w1 = true ∧ intText? w0 = some a ∧ intText? w1 = some b ∧ w0.length ≤ 61 ∧ w1.length ≤ 61)
section
variable {P : Program} {w : World} {K : PySem.W.Frag} {mg : Str → Option Value} {base : Heap}
/-! ### read_number, of a text of a number -/
def spReadY (K : PySem.W.Frag) : Sp := fun vs H Q E => ∃ (x : Addr) (p d a b : Int), vs = [.ref x, .str (numTx a b)] ∧ SqT K H x [.int p, .int d] ∧ isW p d = true ∧ isN p a b = true ∧ a.natAbs < 10 ^ 60 ∧ b.natAbs < 10 ^ 60 ∧ RdOk a b (numTx a b) ∧
  ∀ r H', Same H H' → H' r = some (.tup [.int a, .int b]) → Q (.ref r) H'
theorem readY_of {f CW CM : Addr} {fd : FuncData} {k : Nat} (F : FnOk P w K mg base (L2.CX P w) k f fd ["world", "text"] (spRead K CW CM)) : FnOk P w K mg base (L2.CX P w) k f fd ["world", "text"] (spReadY K) :=
  F.imp fun vs H Q E h => by
    obtain ⟨x, p, d, a, b, rfl, hx, ew, en, la, lb, ⟨l, el, ho⟩, q⟩ := h
    have tl : (numTx a b).length ≤ 200 := by
      unfold numTx
      have e1 : ("/" : Str).length = 1 := by decide +kernel
      have la2 := intTx_len la
      have lb2 := intTx_len lb
      split
      · omega
      · rw [len_cat, len_cat]
        omega
    have wk : ∀ {w : Str} {n : Int}, intText? w = some n → n.natAbs < 10 ^ 60 → wOk w = true := fun {w n} e h => by
      unfold wOk
      rw [e]
      exact decide_eq_true h
    have ok : rdPre (numTx a b) = true ∧ readOk p (numTx a b) = some (a, b) := by
      unfold rdPre readOk
      rw [el]
      rcases ho with ⟨w0, rfl, s0, i0, rfl, l0⟩ | ⟨w0, w1, rfl, s0, s1, i0, i1, l0, l1⟩
      · have r0 : rdPair [w0] = (a, 1) := by
          unfold rdPair rdInt
          show ((intText? w0).getD 0, if 1 = 2 then _ else (1 : Int)) = (a, 1)
          rw [i0]
          rfl
        rw [r0]
        refine ⟨?_, ?_⟩
        · simp [wk i0 la]
          omega
        · rw [if_neg (show ¬ 2 < [w0].length from (by decide : ¬ 2 < 1)), if_neg (by simp [s0]), if_neg (by rw [en]; exact fun z => nomatch z), if_pos rfl]
      · have r0 : rdPair [w0, w1] = (a, b) := by
          unfold rdPair rdInt
          show ((intText? w0).getD 0, if 2 = 2 then (intText? w1).getD 0 else (1 : Int)) = (a, b)
          rw [i0, i1]
          rfl
        rw [r0]
        refine ⟨?_, ?_⟩
        · simp [wk i0 la, wk i1 lb]
          omega
        · rw [if_neg (show ¬ 2 < [w0, w1].length from (by decide : ¬ 2 < 2)), if_neg (by simp [s0, s1]), if_neg (by rw [en]; exact fun z => nomatch z), if_pos rfl]
    refine ⟨x, p, d, numTx a b, rfl, hx, by omega, ok.1, (fun z => by rw [ew] at z; exact nomatch z), (fun _ z => by rw [ok.2] at z; exact nomatch z), fun _ a' b' e r H' s h => ?_⟩
    rw [ok.2] at e
    obtain ⟨rfl, rfl⟩ := Prod.mk.inj (Option.some.inj e)
    exact q r H' s h
end

def Pr (K : PySem.W.Frag) (p : Int) (H : Hp) (t : Addr) (r : Rat) (n : Int) (M : Nat) : Prop := ∃ u v, SqT K H t [.int u, .int v] ∧ NumOf p r n u v ∧ u.natAbs ≤ M ∧ v.natAbs ≤ M
theorem Pr.same {K : PySem.W.Frag} {p : Int} {H H' : Hp} {t : Addr} {r : Rat} {n : Int} {M : Nat} (h : Pr K p H t r n M) (s : Same H H') : Pr K p H' t r n M := by
  obtain ⟨u, v, h1, h2⟩ := h
  exact ⟨u, v, sqT_same s h1, h2⟩
theorem numOf_isN {p : Int} {r : Rat} {n u v : Int} (hp : p = 0 ∨ p ∈ primes) (h : NumOf p r n u v) : isN p u v = true := by
  rcases h with ⟨rfl, rfl, rfl⟩ | ⟨c, rfl, rfl⟩
  · have e := low_isN (a := r.num) (den_ne r)
    rw [low_rat (den_ne r), rat_nd] at e
    exact e
  · have hp2 := prime_pos (hp.resolve_left c)
    unfold isN
    rw [if_neg c, if_pos rfl, if_pos (Int.emod_nonneg _ (by omega))]
    exact decide_eq_true (Int.emod_lt_of_pos _ (by omega))
theorem numOf_pz {p : Int} {r : Rat} {n u v : Int} (h : NumOf p r n u v) (c : p ≠ 0) : v = 1 := (h.resolve_left (fun z => c z.1)).2.2
theorem bad_no {p : Int} {r r' : Rat} {n n' a b a' b' : Int} (hp : p = 0 ∨ p ∈ primes) (x : NumOf p r n a b) (y : NumOf p r' n' a' b') : ¬ bad p (b * b') := fun z => by
  have h1 := numOf_pos x
  have h2 := numOf_pos y
  rcases z with z | ⟨z1, z2⟩
  · exact absurd z (Int.mul_ne_zero (by omega) (by omega))
  · have hp2 := prime_pos (hp.resolve_left (by omega))
    rw [numOf_pz x (by omega), numOf_pz y (by omega), Int.mul_one, Int.emod_eq_of_lt (by decide) (by omega)] at z2
    cases z2
theorem nabs_add (x y : Int) : (x + y).natAbs ≤ x.natAbs + y.natAbs := by omega
theorem nabs_sub (x y : Int) : (x - y).natAbs ≤ x.natAbs + y.natAbs := by omega
theorem nabs_mul {x y : Int} {M M' : Nat} (h : x.natAbs ≤ M) (h' : y.natAbs ≤ M') : (x * y).natAbs ≤ M * M' := by
  rw [Int.natAbs_mul]
  exact Nat.mul_le_mul h h'
theorem fit200 {M M' : Nat} (h : M < 2 ^ 62) (h' : M' < 2 ^ 62) : M * M' < 2 ^ 200 := Nat.lt_of_le_of_lt (Nat.mul_le_mul (Nat.le_of_lt h) (Nat.le_of_lt h')) (by decide)
section
variable {K : PySem.W.Frag} {CW CN CB xw x y : Addr} {p d : Int} {H : Hp} {r r' : Rat} {n n' : Int} {M M' : Nat} {Q : VK} {E : XK}
theorem op_head {fA fB : Int → Int → Int → Int → Int} (hp : p = 0 ∨ p ∈ primes) (ew : isW p d = true) (W : H xw = some (.tup [.int p, .int d])) (X : Pr K p H x r n M) (Y : Pr K p H y r' n' M') (h1 : M < 2 ^ 62) (h2 : M' < 2 ^ 62)
    (q : ∀ a b a' b' : Int, NumOf p r n a b → NumOf p r' n' a' b' → a.natAbs ≤ M → b.natAbs ≤ M → a'.natAbs ≤ M' → b'.natAbs ≤ M' → DivOk (fB a b a' b') ∧ ¬ bad p (fB a b a' b') ∧
      ∀ t u v H', Same H H' → H' t = some (.tup [.int u, .int v]) → IsNum p (fA a b a' b') (fB a b a' b') u v → Q (.ref t) H') : spOp K CW CN CB fA fB [.ref xw, .ref x, .ref y] H Q E := by
  obtain ⟨a, b, hx, nx, s1, s2⟩ := X
  obtain ⟨a', b', hy, ny, s3, s4⟩ := Y
  obtain ⟨dv, nb, k⟩ := q a b a' b' nx ny s1 s2 s3 s4
  refine ⟨xw, x, y, p, d, a, b, a', b', rfl, .inl (.inl W), hx, hy, fun z => ?_, fun _ z => ?_, fun _ _ _ => ⟨⟨by omega, by omega, by omega, by omega, dv⟩, fun z => absurd z nb, fun _ t u v hn nt => k t u v _ (same_upd nt) upd_same hn⟩⟩
  · rw [ew] at z
    exact nomatch z
  · rw [numOf_isN hp nx, numOf_isN hp ny] at z
    rcases z with z | z <;> exact nomatch z
theorem big_ge {M M' : Nat} (h1 : 31 ≤ M) (h2 : 31 ≤ M') : 31 ≤ 2 * (M * M') := by
  have := Nat.mul_le_mul h1 h2
  omega
theorem use_plus (hp : p = 0 ∨ p ∈ primes) (ew : isW p d = true) (W : H xw = some (.tup [.int p, .int d])) (X : Pr K p H x r n M) (Y : Pr K p H y r' n' M') (h1 : M < 2 ^ 62) (h2 : M' < 2 ^ 62) (g1 : 31 ≤ M) (g2 : 31 ≤ M')
    (q : ∀ t H', Same H H' → Pr K p H' t (r + r') (n + n') (2 * (M * M')) → Q (.ref t) H') : spOp K CW CN CB fPlusA fTimesB [.ref xw, .ref x, .ref y] H Q E :=
  op_head hp ew W X Y h1 h2 fun a b a' b' nx ny s1 s2 s3 s4 => by
    have p1 := nabs_mul s1 s4
    have p2 := nabs_mul s3 s2
    have p3 := nabs_mul s2 s4
    rw [Nat.mul_comm M' M] at p2
    have g := big_ge g1 g2
    refine ⟨.inr ⟨Int.mul_pos (numOf_pos nx) (numOf_pos ny), Nat.lt_of_le_of_lt p3 (fit200 h1 h2)⟩, bad_no hp nx ny, fun t u v H' s ht hn => q t H' s ?_⟩
    have sz := num_le hp hn g (Nat.le_trans (nabs_add _ _) (by omega)) (show (b * b').natAbs ≤ _ by omega)
    exact ⟨u, v, .inl (.inl ht), numOf_plus hp nx ny hn, sz.1, sz.2⟩
theorem use_minus (hp : p = 0 ∨ p ∈ primes) (ew : isW p d = true) (W : H xw = some (.tup [.int p, .int d])) (X : Pr K p H x r n M) (Y : Pr K p H y r' n' M') (h1 : M < 2 ^ 62) (h2 : M' < 2 ^ 62) (g1 : 31 ≤ M) (g2 : 31 ≤ M')
    (q : ∀ t H', Same H H' → Pr K p H' t (r - r') (n - n') (2 * (M * M')) → Q (.ref t) H') : spOp K CW CN CB fMinusA fTimesB [.ref xw, .ref x, .ref y] H Q E :=
  op_head hp ew W X Y h1 h2 fun a b a' b' nx ny s1 s2 s3 s4 => by
    have p1 := nabs_mul s1 s4
    have p2 := nabs_mul s3 s2
    have p3 := nabs_mul s2 s4
    rw [Nat.mul_comm M' M] at p2
    have g := big_ge g1 g2
    refine ⟨.inr ⟨Int.mul_pos (numOf_pos nx) (numOf_pos ny), Nat.lt_of_le_of_lt p3 (fit200 h1 h2)⟩, bad_no hp nx ny, fun t u v H' s ht hn => q t H' s ?_⟩
    have sz := num_le hp hn g (Nat.le_trans (nabs_sub _ _) (by omega)) (show (b * b').natAbs ≤ _ by omega)
    exact ⟨u, v, .inl (.inl ht), numOf_minus hp nx ny hn, sz.1, sz.2⟩
theorem use_times (hp : p = 0 ∨ p ∈ primes) (ew : isW p d = true) (W : H xw = some (.tup [.int p, .int d])) (X : Pr K p H x r n M) (Y : Pr K p H y r' n' M') (h1 : M < 2 ^ 62) (h2 : M' < 2 ^ 62) (g1 : 31 ≤ M) (g2 : 31 ≤ M')
    (q : ∀ t H', Same H H' → Pr K p H' t (r * r') (n * n') (2 * (M * M')) → Q (.ref t) H') : spOp K CW CN CB fTimesA fTimesB [.ref xw, .ref x, .ref y] H Q E :=
  op_head hp ew W X Y h1 h2 fun a b a' b' nx ny s1 s2 s3 s4 => by
    have p1 := nabs_mul s1 s3
    have p3 := nabs_mul s2 s4
    have g := big_ge g1 g2
    refine ⟨.inr ⟨Int.mul_pos (numOf_pos nx) (numOf_pos ny), Nat.lt_of_le_of_lt p3 (fit200 h1 h2)⟩, bad_no hp nx ny, fun t u v H' s ht hn => q t H' s ?_⟩
    have sz := num_le hp hn g (show (a * a').natAbs ≤ _ by omega) (show (b * b').natAbs ≤ _ by omega)
    exact ⟨u, v, .inl (.inl ht), numOf_times hp nx ny hn, sz.1, sz.2⟩
theorem use_over (hp : p = 0 ∨ p ∈ primes) (ew : isW p d = true) (W : H xw = some (.tup [.int p, .int d])) (X : Pr K p H x r n M) (Y : Pr K p H y r' n' M') (h1 : M * M' < 1073741824) (h0 : M < 2 ^ 62) (h0' : M' < 2 ^ 62) (g1 : 31 ≤ M) (g2 : 31 ≤ M') (nr : p = 0 → r' ≠ 0) (nn : p ≠ 0 → n' % p ≠ 0)
    (q : ∀ t H' m, Same H H' → Pr K p H' t (r / r') m (2 * (M * M')) → (p ≠ 0 → (m * n' - n) % p = 0) → Q (.ref t) H') : spOp K CW CN CB fOverA fOverB [.ref xw, .ref x, .ref y] H Q E :=
  op_head hp ew W X Y h0 h0' fun a b a' b' nx ny s1 s2 s3 s4 => by
    have p1 := nabs_mul s1 s4
    have p3 := nabs_mul s2 s3
    have g := big_ge g1 g2
    have ha : a' ≠ 0 := fun z => by
      rcases ny with ⟨c, e, _⟩ | ⟨c, e, _⟩
      · exact nr c (Rat.num_eq_zero.mp (e.symm.trans z))
      · exact nn c (e.symm.trans z)
    have hb := numOf_pos nx
    have nb : ¬ bad p (b * a') := fun z => by
      rcases z with z | ⟨z1, z2⟩
      · exact absurd z (Int.mul_ne_zero (by omega) ha)
      · have hp2 := prime_pos (hp.resolve_left (by omega))
        obtain ⟨_, e, _⟩ := ny.resolve_left (fun z => by omega)
        rw [numOf_pz nx (by omega), Int.one_mul, e, Int.emod_emod] at z2
        exact nn (by omega) z2
    refine ⟨.inl (Nat.lt_of_le_of_lt p3 h1), nb, fun t u v H' s ht hn => ?_⟩
    have sz := num_le hp hn g (show (a * b').natAbs ≤ _ by omega) (show (b * a').natAbs ≤ _ by omega)
    obtain ⟨o1, o2⟩ := numOf_over hp nx ny hn ha
    exact q t H' u s ⟨u, v, .inl (.inl ht), o1, sz.1, sz.2⟩ o2
theorem use_power {k : Int} (hp : p = 0 ∨ p ∈ primes) (ew : isW p d = true) (W : H xw = some (.tup [.int p, .int d])) {a b : Int} (hx : H x = some (.tup [.int a, .int b])) (nx : NumOf p r n a b) (sa : p = 0 → a.natAbs ≤ 9) (sb : b.natAbs ≤ 4) (k0 : 0 ≤ k) (k1 : k ≤ 16)
    (q : ∀ t H', Same H H' → Pr K p H' t (r ^ k.toNat) (n ^ k.toNat) (9 ^ 16) → Q (.ref t) H') : spPower K CW CN CB [.ref xw, .ref x, .int k] H Q E := by
  refine ⟨xw, x, p, d, a, b, k, rfl, .inl (.inl W), .inl (.inl hx), fun z => ?_, fun _ z => ?_, fun _ _ z => absurd ⟨k0, by omega⟩ z, fun _ _ _ _ => ⟨k1, sa, sb, fun t u v H' hn s ht => q t H' s ⟨u, v, ht, numOf_pow hp nx hn, ?_⟩⟩⟩
  · rw [ew] at z
    exact nomatch z
  · rw [numOf_isN hp nx] at z
    exact nomatch z
  · by_cases c : p = 0
    · have h1 := pow_small (k := k.toNat) (sa c) (by omega)
      have h2 := pow_small4 (k := k.toNat) sb (by omega)
      exact num_le hp hn (by decide) h1 (by omega)
    · have hp2 := prime_pos (hp.resolve_left c)
      obtain ⟨g0, e1, l1, u1, m1⟩ := hn.resolve_right (fun z => by omega)
      omega
theorem eqv_pair (u v : Int) : PyData.eqv (.tuple [.int u, .int v]) (.tuple [.int u, .int v]) = true := by simp [PyData.eqv, PyData.eqvAll]
theorem ne_pair {u v : Int} (hx : SqT K H x [.int u, .int v]) (hy : SqT K H y [.int u, .int v]) (q : Q (.bl false) H) : rNeD K (.ref x) (.ref y) H Q := by
  refine ⟨_, _, .tup hx (.cons (.int _) (.cons (.int _) .nil)), .tup hy (.cons (.int _) (.cons (.int _) .nil)), rfl, rfl, ?_⟩
  rw [eqv_pair]
  exact q
theorem ne_pairT {u v : Int} (hx : H x = some (.tup [.int u, .int v])) (hy : H y = some (.tup [.int u, .int v])) (q : Q (.bl false) H) : rNeD K (.ref x) (.ref y) H Q := ne_pair (.inl (.inl hx)) (.inl (.inl hy)) q
theorem ne_pr (X : Pr K p H x r n M) (Y : Pr K p H y r' n' M') (hr : p = 0 → r = r') (hn : p ≠ 0 → n % p = n' % p) (q : Q (.bl false) H) : rNeD K (.ref x) (.ref y) H Q := by
  obtain ⟨u, v, hx, nx, _⟩ := X
  obtain ⟨u', v', hy, ny, _⟩ := Y
  obtain ⟨rfl, rfl⟩ := numOf_unique nx ny hr hn
  exact ne_pair hx hy q
end
theorem text_small : ∀ n : Fin 63, intTx ((n.val : Int) - 31) = iT ((n.val : Int) - 31) := by decide +kernel
theorem intTx_eq {k : Int} (h : k.natAbs ≤ 31) : intTx k = iT k := by
  have := text_small ⟨(k + 31).toNat, by omega⟩
  rw [show ((((⟨(k + 31).toNat, by omega⟩ : Fin 63).val : Nat) : Int) - 31) = k by show (((k + 31).toNat : Nat) : Int) - 31 = k; omega] at this
  exact this
def rdB1 (a : Int) : Bool := decide (Txt.split (intTx a) "/" = [intTx a]) && (shortW (intTx a) && (decide (intText? (intTx a) = some a) && decide ((intTx a).length ≤ 61)))
def rdB2 (a b : Int) : Bool := decide (Txt.split (intTx a ++ ("/" : Str) ++ intTx b) "/" = [intTx a, intTx b])
theorem rd_small1 : ∀ n : Fin 63, rdB1 ((n.val : Int) - 31) = true := by decide +kernel
theorem rd_small2 : ∀ n : Fin 63, ∀ m : Fin 5, rdB2 ((n.val : Int) - 31) (m.val : Int) = true := by decide +kernel
theorem rdOk_small {a b : Int} (h : a.natAbs ≤ 31) (hb : 0 < b) (hb4 : b.natAbs ≤ 4) : RdOk a b (numTx a b) := by
  have one : ∀ k : Int, k.natAbs ≤ 31 → rdB1 k = true := fun k hk => by
    have := rd_small1 ⟨(k + 31).toNat, by omega⟩
    rw [show ((((⟨(k + 31).toNat, by omega⟩ : Fin 63).val : Nat) : Int) - 31) = k by show (((k + 31).toNat : Nat) : Int) - 31 = k; omega] at this
    exact this
  have split1 : ∀ k : Int, rdB1 k = true → Txt.split (intTx k) "/" = [intTx k] ∧ shortW (intTx k) = true ∧ intText? (intTx k) = some k ∧ (intTx k).length ≤ 61 := fun k hk => by
    unfold rdB1 at hk
    simp only [Bool.and_eq_true, decide_eq_true_eq] at hk
    exact hk
  obtain ⟨a1, a2, a3, a4⟩ := split1 a (one a h)
  obtain ⟨b1, b2, b3, b4⟩ := split1 b (one b (by omega))
  unfold numTx
  by_cases c : b = 1
  · rw [if_pos c]
    exact ⟨_, rfl, .inl ⟨_, a1, a2, a3, c, a4⟩⟩
  · rw [if_neg c]
    have := rd_small2 ⟨(a + 31).toNat, by omega⟩ ⟨b.toNat, by omega⟩
    rw [show ((((⟨(a + 31).toNat, by omega⟩ : Fin 63).val : Nat) : Int) - 31) = a by show (((a + 31).toNat : Nat) : Int) - 31 = a; omega, show (((⟨b.toNat, by omega⟩ : Fin 5).val : Nat) : Int) = b by show ((b.toNat : Nat) : Int) = b; omega] at this
    exact ⟨_, rfl, .inr ⟨_, _, of_decide_eq_true this, a2, b2, a3, b3, a4, b4⟩⟩

theorem over_back {p m n n' : Int} (hp : p ∈ primes) (hn : n' % p ≠ 0) (h : (m * n' - n * n') % p = 0) : m % p = n % p := by
  rw [← Int.sub_mul] at h
  exact Int.emod_eq_emod_iff_emod_sub_eq_zero.mpr (cancel hp hn h)
theorem eqv_01 {u v : Int} (h : ¬ (u = 0 ∧ v = 1)) : (!PyData.eqv (.tuple [.int u, .int v]) (.tuple [.int 0, .int 1])) = true := by
  by_cases c : u = 0
  · have : v ≠ 1 := fun z => h ⟨c, z⟩
    simp [PyData.eqv, PyData.eqvAll, this]
  · simp [PyData.eqv, PyData.eqvAll, c]
theorem bad_self {p : Int} {r : Rat} {n u v : Int} (h : NumOf p r n u v) (hp : p = 0 ∨ p ∈ primes) : ¬ bad p v := fun z => by
  have h1 := numOf_pos h
  rcases z with z | ⟨z1, z2⟩
  · omega
  · have hp2 := prime_pos (hp.resolve_left (by omega))
    rw [numOf_pz h (by omega), Int.emod_eq_of_lt (by decide) (by omega)] at z2
    cases z2
theorem num_self {p : Int} {r : Rat} {n u v : Int} (h : NumOf p r n u v) (hp : p = 0 ∨ p ∈ primes) : IsNum p u v u v := by
  rcases h with ⟨rfl, rfl, rfl⟩ | ⟨c, rfl, rfl⟩
  · refine .inr ⟨by omega, ?_⟩
    rw [low_rat (den_ne r), rat_nd]
  · have hp2 := prime_pos (hp.resolve_left c)
    refine .inl ⟨by omega, rfl, Int.emod_nonneg _ (by omega), Int.emod_lt_of_pos _ (by omega), ?_⟩
    rw [Int.mul_one, Int.sub_self]
    exact Int.zero_emod p
theorem eq_pair {K : PySem.W.Frag} {x y : Addr} {H : Hp} {Q : VK} {u v : Int} (hx : H x = some (.tup [.int u, .int v])) (hy : H y = some (.tup [.int u, .int v])) (q : Q (.bl true) H) : rEqD K (.ref x) (.ref y) H Q := by
  refine ⟨_, _, .tup (.inl (.inl hx)) (.cons (.int _) (.cons (.int _) .nil)), .tup (.inl (.inl hy)) (.cons (.int _) (.cons (.int _) .nil)), rfl, rfl, ?_⟩
  rw [eqv_pair]
  exact q
theorem nil_go {σ : L2.St} {H : Hp} {Q : List V → Hp → Prop} (h : Q [] H) : tNil σ H Q := h
theorem num_one {p d : Int} (hw : isW p d = true) {u v : Int} (h : IsNum p d 1 u v) : u = d ∧ v = 1 := by
  have hp := (isW_cases hw).1
  by_cases c : p = 0
  · have e := (h.resolve_left (fun z => by omega)).2
    unfold low gI at e
    rw [if_neg (by decide), show (1 : Int).natAbs = 1 from rfl, Nat.gcd_one_right] at e
    rw [show (((1 : Nat) : Int)) = 1 from rfl, Int.ediv_one, Int.ediv_one] at e
    exact ⟨congrArg Prod.fst e, congrArg Prod.snd e⟩
  · obtain ⟨h1, h2, h3⟩ := isW_prime hw c
    have hp2 := prime_pos h1
    obtain ⟨g0, e1, l1, u1, m1⟩ := h.resolve_right (fun z => by omega)
    have := mod_of_sub m1
    rw [Int.emod_eq_of_lt l1 u1, Int.emod_eq_of_lt h2 h3] at this
    exact ⟨this, e1⟩
section
variable {P : Program} {w : World} {K : PySem.W.Frag} {mg : Str → Option Value} {base : Heap}
def spLaw (K : PySem.W.Frag) : Sp := fun vs H Q _ => ∃ (a : Addr) (ns : List Int), vs = [.ref a] ∧ SqL K H a (ns.map V.int) ∧ ns.length ≤ 63 ∧ ∀ H', Q (.bl true) H'
theorem ok_law {f CW CN CB a_law_draws a_law_next a_law_world a_law_number a_plus a_minus a_times a_over a_power a_number_text a_read_number a_number a_loop_worth : Addr} {fd fd_law_draws fd_law_next fd_law_world fd_law_number fd_plus fd_minus fd_times fd_over fd_power fd_number_text fd_read_number fd_number fd_loop_worth : FuncData} {un : Tok} (F : Fun K "law" "law" s_law f fd)
    (z_int : mg "int" = none) (z_str : mg "str" = none)
    (G_law_draws : FnOk P w K mg base CX0 2 a_law_draws fd_law_draws ["script"] (spDraws K)) (g_law_draws : mg "_law_draws" = some (.ref a_law_draws)) (k_law_draws : PySem.W.keepIn K (.ref a_law_draws) = true) (b_law_draws : Binds K fd_law_draws ["script"] [])
    (G_law_next : FnOk P w K mg base CX0 1 a_law_next fd_law_next ["draws"] spNext) (g_law_next : mg "_law_next" = some (.ref a_law_next)) (k_law_next : PySem.W.keepIn K (.ref a_law_next) = true) (b_law_next : Binds K fd_law_next ["draws"] [])
    (G_law_world : FnOk P w K mg base CX0 2 a_law_world fd_law_world ["draws"] spLawWorld) (g_law_world : mg "_law_world" = some (.ref a_law_world)) (k_law_world : PySem.W.keepIn K (.ref a_law_world) = true) (b_law_world : Binds K fd_law_world ["draws"] [])
    (G_law_number : FnOk P w K mg base CX0 2 a_law_number fd_law_number ["draws", "world"] (spLawNumber K)) (g_law_number : mg "_law_number" = some (.ref a_law_number)) (k_law_number : PySem.W.keepIn K (.ref a_law_number) = true) (b_law_number : Binds K fd_law_number ["draws", "world"] [])
    (G_plus : FnOk P w K mg base (L2.CX P w) 6 a_plus fd_plus ["world", "x", "y"] (spOp K CW CN CB fPlusA fTimesB)) (g_plus : mg "plus" = some (.ref a_plus)) (k_plus : PySem.W.keepIn K (.ref a_plus) = true) (b_plus : Binds K fd_plus ["world", "x", "y"] [])
    (G_minus : FnOk P w K mg base (L2.CX P w) 6 a_minus fd_minus ["world", "x", "y"] (spOp K CW CN CB fMinusA fTimesB)) (g_minus : mg "minus" = some (.ref a_minus)) (k_minus : PySem.W.keepIn K (.ref a_minus) = true) (b_minus : Binds K fd_minus ["world", "x", "y"] [])
    (G_times : FnOk P w K mg base (L2.CX P w) 6 a_times fd_times ["world", "x", "y"] (spOp K CW CN CB fTimesA fTimesB)) (g_times : mg "times" = some (.ref a_times)) (k_times : PySem.W.keepIn K (.ref a_times) = true) (b_times : Binds K fd_times ["world", "x", "y"] [])
    (G_over : FnOk P w K mg base (L2.CX P w) 6 a_over fd_over ["world", "x", "y"] (spOp K CW CN CB fOverA fOverB)) (g_over : mg "over" = some (.ref a_over)) (k_over : PySem.W.keepIn K (.ref a_over) = true) (b_over : Binds K fd_over ["world", "x", "y"] [])
    (G_power : FnOk P w K mg base (L2.CX P w) 7 a_power fd_power ["world", "x", "count"] (spPower K CW CN CB)) (g_power : mg "power" = some (.ref a_power)) (k_power : PySem.W.keepIn K (.ref a_power) = true) (b_power : Binds K fd_power ["world", "x", "count"] [])
    (G_number_text : FnOk P w K mg base (L2.CX P w) 5 a_number_text fd_number_text ["world", "x"] (spNumText K CW CN)) (g_number_text : mg "number_text" = some (.ref a_number_text)) (k_number_text : PySem.W.keepIn K (.ref a_number_text) = true) (b_number_text : Binds K fd_number_text ["world", "x"] [])
    (G_read_number : FnOk P w K mg base (L2.CX P w) 7 a_read_number fd_read_number ["world", "text"] (spReadY K)) (g_read_number : mg "read_number" = some (.ref a_read_number)) (k_read_number : PySem.W.keepIn K (.ref a_read_number) = true) (b_read_number : Binds K fd_read_number ["world", "text"] [])
    (G_number : FnOk P w K mg base (L2.CX P w) 3 a_number fd_number ["world", "a", "b"] (spNumber K CW CB)) (g_number : mg "number" = some (.ref a_number)) (k_number : PySem.W.keepIn K (.ref a_number) = true) (b_number : Binds K fd_number ["world", "a", "b"] [])
    (G_loop_worth : FnOk P w K mg base (L2.CX P w) 3 a_loop_worth fd_loop_worth ["world"] (spLoopWorth K CW)) (g_loop_worth : mg "loop_worth" = some (.ref a_loop_worth)) (k_loop_worth : PySem.W.keepIn K (.ref a_loop_worth) = true) (b_loop_worth : Binds K fd_loop_worth ["world"] [])
    (b_number2 : Binds K fd_number ["world", "a", "b"] [.int 1 un]) :
    FnG P w K mg base 9 f fd ["script"] (spLaw K) := by
  refine F.okG sc_law (fun vs H Q E h => ?_) (fun cdv A outer s H vs Q E hgu hr h => ?_)
  · obtain ⟨a, ns, rfl, _⟩ := h
    rfl
  · obtain ⟨sc, ns, rfl, hS, hlen, q⟩ := h
    refine ⟨_, (pss_cons (ps_set (i := 1) sc_law.nd rfl (.inl rfl) (pe_call G_law_draws (hr.mono (by decide)) rfl g_law_draws k_law_draws b_law_draws .nil pass0 (pa_cons (pv 0) pa_nil)))
  (pss_cons (ps_expr (pe_bm0 PySem.F.plainAttrs_list PySem.F.slot_list_reverse PySem.F.type_list_reverse mt_reverse (pv 1)))
  (pss_cons (ps_set (i := 2) sc_law.nd rfl (.inl rfl) (pe_call G_law_world (hr.mono (by decide)) rfl g_law_world k_law_world b_law_world .nil pass0 (pa_cons (pv 1) pa_nil)))
  (pss_cons (ps_set (i := 3) sc_law.nd rfl (.inl rfl) (pe_call G_law_number (hr.mono (by decide)) rfl g_law_number k_law_number b_law_number .nil pass0 (pa_cons (pv 1) (pa_cons (pv 2) pa_nil))))
  (pss_cons (ps_set (i := 4) sc_law.nd rfl (.inl rfl) (pe_call G_law_number (hr.mono (by decide)) rfl g_law_number k_law_number b_law_number .nil pass0 (pa_cons (pv 1) (pa_cons (pv 2) pa_nil))))
  (pss_cons (ps_set (i := 5) sc_law.nd rfl (.inl rfl) (pe_call G_law_number (hr.mono (by decide)) rfl g_law_number k_law_number b_law_number .nil pass0 (pa_cons (pv 1) (pa_cons (pv 2) pa_nil))))
  (pss_cons (ps_if (L2.PW.pt (pw_or (pt_cmpR (op_neD (room64 hr)) (pe_call G_plus (hr.mono (by decide)) rfl g_plus k_plus b_plus .nil passL (pa_cons (pv 2) (pa_cons (pv 3) (pa_cons (pv 4) pa_nil)))) (pe_call G_plus (hr.mono (by decide)) rfl g_plus k_plus b_plus .nil passL (pa_cons (pv 2) (pa_cons (pv 4) (pa_cons (pv 3) pa_nil)))) (nomark _)) (pw_or1 (pt_cmpR (op_neD (room64 hr)) (pe_call G_times (hr.mono (by decide)) rfl g_times k_times b_times .nil passL (pa_cons (pv 2) (pa_cons (pv 3) (pa_cons (pv 4) pa_nil)))) (pe_call G_times (hr.mono (by decide)) rfl g_times k_times b_times .nil passL (pa_cons (pv 2) (pa_cons (pv 4) (pa_cons (pv 3) pa_nil)))) (nomark _))))) (pss_one (ps_ret pe_bl)) pss_nil)
  (pss_cons (ps_if (pt_cmpR (op_neD (room64 hr)) (pe_call G_plus (hr.mono (by decide)) rfl g_plus k_plus b_plus .nil passL (pa_cons (pv 2) (pa_cons (pe_call G_plus (hr.mono (by decide)) rfl g_plus k_plus b_plus .nil passL (pa_cons (pv 2) (pa_cons (pv 3) (pa_cons (pv 4) pa_nil)))) (pa_cons (pv 5) pa_nil)))) (pe_call G_plus (hr.mono (by decide)) rfl g_plus k_plus b_plus .nil passL (pa_cons (pv 2) (pa_cons (pv 3) (pa_cons (pe_call G_plus (hr.mono (by decide)) rfl g_plus k_plus b_plus .nil passL (pa_cons (pv 2) (pa_cons (pv 4) (pa_cons (pv 5) pa_nil)))) pa_nil)))) (nomark _)) (pss_one (ps_ret pe_bl)) pss_nil)
  (pss_cons (ps_if (pt_cmpR (op_neD (room64 hr)) (pe_call G_times (hr.mono (by decide)) rfl g_times k_times b_times .nil passL (pa_cons (pv 2) (pa_cons (pe_call G_times (hr.mono (by decide)) rfl g_times k_times b_times .nil passL (pa_cons (pv 2) (pa_cons (pv 3) (pa_cons (pv 4) pa_nil)))) (pa_cons (pv 5) pa_nil)))) (pe_call G_times (hr.mono (by decide)) rfl g_times k_times b_times .nil passL (pa_cons (pv 2) (pa_cons (pv 3) (pa_cons (pe_call G_times (hr.mono (by decide)) rfl g_times k_times b_times .nil passL (pa_cons (pv 2) (pa_cons (pv 4) (pa_cons (pv 5) pa_nil)))) pa_nil)))) (nomark _)) (pss_one (ps_ret pe_bl)) pss_nil)
  (pss_cons (ps_if (pt_cmpR (op_neD (room64 hr)) (pe_call G_times (hr.mono (by decide)) rfl g_times k_times b_times .nil passL (pa_cons (pv 2) (pa_cons (pv 3) (pa_cons (pe_call G_plus (hr.mono (by decide)) rfl g_plus k_plus b_plus .nil passL (pa_cons (pv 2) (pa_cons (pv 4) (pa_cons (pv 5) pa_nil)))) pa_nil)))) (pe_call G_plus (hr.mono (by decide)) rfl g_plus k_plus b_plus .nil passL (pa_cons (pv 2) (pa_cons (pe_call G_times (hr.mono (by decide)) rfl g_times k_times b_times .nil passL (pa_cons (pv 2) (pa_cons (pv 3) (pa_cons (pv 4) pa_nil)))) (pa_cons (pe_call G_times (hr.mono (by decide)) rfl g_times k_times b_times .nil passL (pa_cons (pv 2) (pa_cons (pv 3) (pa_cons (pv 5) pa_nil)))) pa_nil)))) (nomark _)) (pss_one (ps_ret pe_bl)) pss_nil)
  (pss_cons (ps_if (L2.PW.pt (pw_or (pt_cmpR (op_neD (room64 hr)) (pe_call G_minus (hr.mono (by decide)) rfl g_minus k_minus b_minus .nil passL (pa_cons (pv 2) (pa_cons (pe_call G_plus (hr.mono (by decide)) rfl g_plus k_plus b_plus .nil passL (pa_cons (pv 2) (pa_cons (pv 3) (pa_cons (pv 4) pa_nil)))) (pa_cons (pv 4) pa_nil)))) (pv 3) (nomark _)) (pw_or1 (pt_cmpR (op_neD (room64 hr)) (pe_call G_plus (hr.mono (by decide)) rfl g_plus k_plus b_plus .nil passL (pa_cons (pv 2) (pa_cons (pe_call G_minus (hr.mono (by decide)) rfl g_minus k_minus b_minus .nil passL (pa_cons (pv 2) (pa_cons (pv 3) (pa_cons (pv 4) pa_nil)))) (pa_cons (pv 4) pa_nil)))) (pv 3) (nomark _))))) (pss_one (ps_ret pe_bl)) pss_nil)
  (Evl.pss_cut (ps_if (L2.PW.pt (pw_and (pt_cmpR (op_neD (room64 hr)) (pv 4) (pe_tup (pa_cons pe_int (pa_cons pe_int pa_nil))) (nomark _)) (pw_and1 (L2.PW.pt (pw_or (pt_cmpR (op_neD (room64 hr)) (pe_call G_over (hr.mono (by decide)) rfl g_over k_over b_over .nil passL (pa_cons (pv 2) (pa_cons (pe_call G_times (hr.mono (by decide)) rfl g_times k_times b_times .nil passL (pa_cons (pv 2) (pa_cons (pv 3) (pa_cons (pv 4) pa_nil)))) (pa_cons (pv 4) pa_nil)))) (pv 3) (nomark _)) (pw_or1 (pt_cmpR (op_neD (room64 hr)) (pe_call G_times (hr.mono (by decide)) rfl g_times k_times b_times .nil passL (pa_cons (pv 2) (pa_cons (pe_call G_over (hr.mono (by decide)) rfl g_over k_over b_over .nil passL (pa_cons (pv 2) (pa_cons (pv 3) (pa_cons (pv 4) pa_nil)))) (pa_cons (pv 4) pa_nil)))) (pv 3) (nomark _)))))))) (pss_one (ps_ret pe_bl)) pss_nil)
  (pss_cons (ps_set (i := 6) sc_law.nd rfl (.inl rfl) (pe_op op_mod (pe_callTy call_int1 (by rfl) z_int boot_int (pa_cons (pe_call G_law_next (hr.mono (by decide)) rfl g_law_next k_law_next b_law_next .nil pass0 (pa_cons (pv 1) pa_nil)) pa_nil)) pe_int))
  (pss_cons (ps_set (i := 7) sc_law.nd rfl (.inl rfl) (pe_op op_mod (pe_callTy call_int1 (by rfl) z_int boot_int (pa_cons (pe_call G_law_next (hr.mono (by decide)) rfl g_law_next k_law_next b_law_next .nil pass0 (pa_cons (pv 1) pa_nil)) pa_nil)) pe_int))
  (pss_cons (ps_if (pt_cmpR (op_neD (room64 hr)) (pe_call G_times (hr.mono (by decide)) rfl g_times k_times b_times .nil passL (pa_cons (pv 2) (pa_cons (pe_call G_power (hr.mono (by decide)) rfl g_power k_power b_power .nil passL (pa_cons (pv 2) (pa_cons (pv 3) (pa_cons (pv 6) pa_nil)))) (pa_cons (pe_call G_power (hr.mono (by decide)) rfl g_power k_power b_power .nil passL (pa_cons (pv 2) (pa_cons (pv 3) (pa_cons (pv 7) pa_nil)))) pa_nil)))) (pe_call G_power (hr.mono (by decide)) rfl g_power k_power b_power .nil passL (pa_cons (pv 2) (pa_cons (pv 3) (pa_cons (pe_op op_add (pv 6) (pv 7)) pa_nil)))) (nomark _)) (pss_one (ps_ret pe_bl)) pss_nil)
  (pss_cons (ps_set (i := 8) sc_law.nd rfl (.inl rfl) (pe_call G_number_text (hr.mono (by decide)) rfl g_number_text k_number_text b_number_text .nil passL (pa_cons (pv 2) (pa_cons (pv 3) pa_nil))))
  (pss_cons (ps_set (i := 9) sc_law.nd rfl (.inl rfl) (pe_callTy call_str_int (by rfl) z_str boot_str (pa_cons (pe_ix ix_tup (pv 3) pe_int (fun _ _ => rfl)) pa_nil)))
  (Evl.pss_cut (ps_if (pt_cmpR op_gt (pe_ix ix_tup (pv 3) pe_int (fun _ _ => rfl)) pe_int (nomark _)) (pss_one (ps_set (i := 9) sc_law.nd rfl (.inl rfl) (pe_op op_add_str (pe_op op_add_str (pv 9) pe_str) (pe_callTy call_str_int (by rfl) z_str boot_str (pa_cons (pe_ix ix_tup (pv 3) pe_int (fun _ _ => rfl)) pa_nil))))) pss_nil)
  (pss_cons (ps_if (L2.PW.pt (pw_or (pt_cmpR op_ne (pv 8) (pv 9) (nomark _)) (pw_or (pt_cmpR (op_neD (room64 hr)) (pe_call G_read_number (hr.mono (by decide)) rfl g_read_number k_read_number b_read_number .nil passL (pa_cons (pv 2) (pa_cons (pv 8) pa_nil))) (pv 3) (nomark _)) (pw_or1 (pt_cmpR (op_neD (room64 hr)) (pe_call G_number (hr.mono (by decide)) rfl g_number k_number b_number .nil passL (pa_cons (pv 2) (pa_cons (pe_ix ix_tup (pv 3) pe_int (fun _ _ => rfl)) (pa_cons (pe_ix ix_tup (pv 3) pe_int (fun _ _ => rfl)) pa_nil)))) (pv 3) (nomark _)))))) (pss_one (ps_ret pe_bl)) pss_nil)
  (pss_one (ps_ret (pe_cmpR (op_eqD (room64 hr)) (pe_call G_loop_worth (hr.mono (by decide)) rfl g_loop_worth k_loop_worth b_loop_worth .nil passL (pa_cons (pv 2) pa_nil)) (pe_call G_number (hr.mono (by decide)) rfl g_number k_number b_number2 (show Vals [V.int 1] [Value.int 1 un] from .cons ⟨un, rfl⟩ .nil) passL (pa_cons (pv 2) (pa_cons (pe_ix ix_tup (pv 2) pe_int (fun _ _ => rfl)) pa_nil))) (nomark _))))))))))))))))))))))), ?_⟩
    refine ⟨_, rfl, sc, ns, rfl, hS, hlen, fun H1 r ds s1 nr hL => ?_⟩
    refine ⟨_, rfl, .inl ⟨rfl, _, .inl (.inl hL)⟩, r, _, rfl, rfl, hL, ?_⟩
    rw [← List.map_reverse]
    generalize ds.reverse = ds1
    refine ⟨_, rfl, r, ds1, rfl, upd_same, fun p d ds2 xw H2 _ hL2 _ hw2 ew => ?_⟩
    obtain ⟨hp, hd⟩ := isW_cases ew
    have hrw : r ≠ xw := ne_of hL2 hw2 (fun z => nomatch z)
    have num : ∀ {a b : Int}, isN p a b = true → ∃ r n, NumOf p r n a b := fun {a b} en => by
      obtain ⟨pz, pn⟩ := isN_pos en hp
      refine numOf_of hp (fun c => ⟨pz c, ?_⟩) pn
      unfold isN at en
      rw [if_pos c, if_pos (by have := pz c; omega)] at en
      exact ((low_self (pz c)).mpr (of_decide_eq_true en)).symm
    refine ⟨_, rfl, _, rfl, r, xw, ds2, p, d, rfl, hL2, .inl (.inl hw2), hrw, ew, fun a b ds3 xx H3 sb3 hL3 _ hx3 en ha9 ha hb hb1 hb0 => ?_⟩
    have hw3 := sb3 _ _ (Ne.symm hrw) hw2
    have hrx : r ≠ xx := ne_of hL3 hx3 (fun z => nomatch z)
    refine ⟨_, rfl, _, rfl, r, xw, ds3, p, d, rfl, hL3, .inl (.inl hw3), hrw, ew, fun a' b' ds4 xy H4 sb4 hL4 _ hy4 en' _ ha' hb' hb1' hb0' => ?_⟩
    have hw4 := sb4 _ _ (Ne.symm hrw) hw3
    have hx4 := sb4 _ _ (Ne.symm hrx) hx3
    have hry : r ≠ xy := ne_of hL4 hy4 (fun z => nomatch z)
    refine ⟨_, rfl, _, rfl, r, xw, ds4, p, d, rfl, hL4, .inl (.inl hw4), hrw, ew, fun a3 b3 ds5 xz H5 sb5 hL5 _ hz5 en3 _ ha3 hb3 hb13 hb03 => ?_⟩
    have hw5 := sb5 _ _ (Ne.symm hrw) hw4
    have hx5 := sb5 _ _ (Ne.symm hrx) hx4
    have hy5 := sb5 _ _ (Ne.symm hry) hy4
    obtain ⟨rx, nx, NX⟩ := num en
    obtain ⟨ry, ny, NY⟩ := num en'
    obtain ⟨rz, nz, NZ⟩ := num en3
    have hrz : r ≠ xz := ne_of hL5 hz5 (fun z => nomatch z)
    have X : Pr K p H5 xx rx nx 31 := ⟨a, b, .inl (.inl hx5), NX, ha, by omega⟩
    have Y : Pr K p H5 xy ry ny 31 := ⟨a', b', .inl (.inl hy5), NY, ha', by omega⟩
    have Z : Pr K p H5 xz rz nz 31 := ⟨a3, b3, .inl (.inl hz5), NZ, ha3, by omega⟩
    have L1 : (31 : Nat) < 2 ^ 62 := by decide
    have M2 : 2 * (31 * 31) < 2 ^ 62 := by decide
    have g1 : 31 ≤ (31 : Nat) := by decide
    have g2 : 31 ≤ 2 * (31 * 31) := by decide
    refine ⟨_, rfl, ?_⟩
    refine ⟨_, rfl, ?_⟩
    refine ⟨_, rfl, ?_⟩
    refine nil_go ?_
    try dsimp only
    refine use_plus hp ew hw5 X Y (by decide) (by decide) (by decide) (by decide) fun t1 H6 s6 T1 => ?_
    refine ⟨_, rfl, ?_⟩
    refine ⟨_, rfl, ?_⟩
    refine ⟨_, rfl, ?_⟩
    refine nil_go ?_
    try dsimp only
    refine use_plus hp ew (s6 _ _ hw5) (Y.same s6) (X.same s6) (by decide) (by decide) (by decide) (by decide) fun t2 H7 s7 T2 => ?_
    refine ne_pr (T1.same s7) T2 (fun _ => by grind) (fun c => by congr 1; grind) ⟨_, rfl, iteF ?_⟩
    refine ⟨_, rfl, ?_⟩
    refine ⟨_, rfl, ?_⟩
    refine ⟨_, rfl, ?_⟩
    refine nil_go ?_
    try dsimp only
    refine use_times hp ew ((Same.trans s6 s7) _ _ hw5) (X.same (Same.trans s6 s7)) (Y.same (Same.trans s6 s7)) (by decide) (by decide) (by decide) (by decide) fun t3 H8 s8 T3 => ?_
    refine ⟨_, rfl, ?_⟩
    refine ⟨_, rfl, ?_⟩
    refine ⟨_, rfl, ?_⟩
    refine nil_go ?_
    try dsimp only
    refine use_times hp ew ((Same.trans (Same.trans s6 s7) s8) _ _ hw5) (Y.same (Same.trans (Same.trans s6 s7) s8)) (X.same (Same.trans (Same.trans s6 s7) s8)) (by decide) (by decide) (by decide) (by decide) fun t4 H9 s9 T4 => ?_
    refine ne_pr (T3.same s9) T4 (fun _ => by grind) (fun c => by congr 1; grind) ⟨_, rfl, iteF ?_⟩
    refine ⟨_, rfl, ?_⟩
    refine ⟨_, rfl, ?_⟩
    refine ⟨_, rfl, ?_⟩
    refine ⟨_, rfl, ?_⟩
    refine nil_go ?_
    try dsimp only
    refine use_plus hp ew ((Same.trans (Same.trans (Same.trans s6 s7) s8) s9) _ _ hw5) (X.same (Same.trans (Same.trans (Same.trans s6 s7) s8) s9)) (Y.same (Same.trans (Same.trans (Same.trans s6 s7) s8) s9)) (by decide) (by decide) (by decide) (by decide) fun t5 H10 s10 T5 => ?_
    refine ⟨_, rfl, ?_⟩
    refine nil_go ?_
    try dsimp only
    refine use_plus hp ew ((Same.trans (Same.trans (Same.trans (Same.trans s6 s7) s8) s9) s10) _ _ hw5) T5 (Z.same (Same.trans (Same.trans (Same.trans (Same.trans s6 s7) s8) s9) s10)) (by decide) (by decide) (by decide) (by decide) fun t6 H11 s11 T6 => ?_
    refine ⟨_, rfl, ?_⟩
    refine ⟨_, rfl, ?_⟩
    refine ⟨_, rfl, ?_⟩
    refine ⟨_, rfl, ?_⟩
    refine ⟨_, rfl, ?_⟩
    refine nil_go ?_
    try dsimp only
    refine use_plus hp ew ((Same.trans (Same.trans (Same.trans (Same.trans (Same.trans s6 s7) s8) s9) s10) s11) _ _ hw5) (Y.same (Same.trans (Same.trans (Same.trans (Same.trans (Same.trans s6 s7) s8) s9) s10) s11)) (Z.same (Same.trans (Same.trans (Same.trans (Same.trans (Same.trans s6 s7) s8) s9) s10) s11)) (by decide) (by decide) (by decide) (by decide) fun t7 H12 s12 T7 => ?_
    refine nil_go ?_
    try dsimp only
    refine use_plus hp ew ((Same.trans (Same.trans (Same.trans (Same.trans (Same.trans (Same.trans s6 s7) s8) s9) s10) s11) s12) _ _ hw5) (X.same (Same.trans (Same.trans (Same.trans (Same.trans (Same.trans (Same.trans s6 s7) s8) s9) s10) s11) s12)) T7 (by decide) (by decide) (by decide) (by decide) fun t8 H13 s13 T8 => ?_
    refine ne_pr (T6.same (Same.trans s12 s13)) T8 (fun _ => by grind) (fun c => by congr 1; grind) ⟨_, rfl, iteF ?_⟩
    refine ⟨_, rfl, ?_⟩
    refine ⟨_, rfl, ?_⟩
    refine ⟨_, rfl, ?_⟩
    refine ⟨_, rfl, ?_⟩
    refine nil_go ?_
    try dsimp only
    refine use_times hp ew ((Same.trans (Same.trans (Same.trans (Same.trans (Same.trans (Same.trans (Same.trans s6 s7) s8) s9) s10) s11) s12) s13) _ _ hw5) (X.same (Same.trans (Same.trans (Same.trans (Same.trans (Same.trans (Same.trans (Same.trans s6 s7) s8) s9) s10) s11) s12) s13)) (Y.same (Same.trans (Same.trans (Same.trans (Same.trans (Same.trans (Same.trans (Same.trans s6 s7) s8) s9) s10) s11) s12) s13)) (by decide) (by decide) (by decide) (by decide) fun t9 H14 s14 T9 => ?_
    refine ⟨_, rfl, ?_⟩
    refine nil_go ?_
    try dsimp only
    refine use_times hp ew ((Same.trans (Same.trans (Same.trans (Same.trans (Same.trans (Same.trans (Same.trans (Same.trans s6 s7) s8) s9) s10) s11) s12) s13) s14) _ _ hw5) T9 (Z.same (Same.trans (Same.trans (Same.trans (Same.trans (Same.trans (Same.trans (Same.trans (Same.trans s6 s7) s8) s9) s10) s11) s12) s13) s14)) (by decide) (by decide) (by decide) (by decide) fun t10 H15 s15 T10 => ?_
    refine ⟨_, rfl, ?_⟩
    refine ⟨_, rfl, ?_⟩
    refine ⟨_, rfl, ?_⟩
    refine ⟨_, rfl, ?_⟩
    refine ⟨_, rfl, ?_⟩
    refine nil_go ?_
    try dsimp only
    refine use_times hp ew ((Same.trans (Same.trans (Same.trans (Same.trans (Same.trans (Same.trans (Same.trans (Same.trans (Same.trans s6 s7) s8) s9) s10) s11) s12) s13) s14) s15) _ _ hw5) (Y.same (Same.trans (Same.trans (Same.trans (Same.trans (Same.trans (Same.trans (Same.trans (Same.trans (Same.trans s6 s7) s8) s9) s10) s11) s12) s13) s14) s15)) (Z.same (Same.trans (Same.trans (Same.trans (Same.trans (Same.trans (Same.trans (Same.trans (Same.trans (Same.trans s6 s7) s8) s9) s10) s11) s12) s13) s14) s15)) (by decide) (by decide) (by decide) (by decide) fun t11 H16 s16 T11 => ?_
    refine nil_go ?_
    try dsimp only
    refine use_times hp ew ((Same.trans (Same.trans (Same.trans (Same.trans (Same.trans (Same.trans (Same.trans (Same.trans (Same.trans (Same.trans s6 s7) s8) s9) s10) s11) s12) s13) s14) s15) s16) _ _ hw5) (X.same (Same.trans (Same.trans (Same.trans (Same.trans (Same.trans (Same.trans (Same.trans (Same.trans (Same.trans (Same.trans s6 s7) s8) s9) s10) s11) s12) s13) s14) s15) s16)) T11 (by decide) (by decide) (by decide) (by decide) fun t12 H17 s17 T12 => ?_
    refine ne_pr (T10.same (Same.trans s16 s17)) T12 (fun _ => by grind) (fun c => by congr 1; grind) ⟨_, rfl, iteF ?_⟩
    refine ⟨_, rfl, ?_⟩
    refine ⟨_, rfl, ?_⟩
    refine ⟨_, rfl, ?_⟩
    refine ⟨_, rfl, ?_⟩
    refine ⟨_, rfl, ?_⟩
    refine nil_go ?_
    try dsimp only
    refine use_plus hp ew ((Same.trans (Same.trans (Same.trans (Same.trans (Same.trans (Same.trans (Same.trans (Same.trans (Same.trans (Same.trans (Same.trans s6 s7) s8) s9) s10) s11) s12) s13) s14) s15) s16) s17) _ _ hw5) (Y.same (Same.trans (Same.trans (Same.trans (Same.trans (Same.trans (Same.trans (Same.trans (Same.trans (Same.trans (Same.trans (Same.trans s6 s7) s8) s9) s10) s11) s12) s13) s14) s15) s16) s17)) (Z.same (Same.trans (Same.trans (Same.trans (Same.trans (Same.trans (Same.trans (Same.trans (Same.trans (Same.trans (Same.trans (Same.trans s6 s7) s8) s9) s10) s11) s12) s13) s14) s15) s16) s17)) (by decide) (by decide) (by decide) (by decide) fun t13 H18 s18 T13 => ?_
    refine nil_go ?_
    try dsimp only
    refine use_times hp ew ((Same.trans (Same.trans (Same.trans (Same.trans (Same.trans (Same.trans (Same.trans (Same.trans (Same.trans (Same.trans (Same.trans (Same.trans s6 s7) s8) s9) s10) s11) s12) s13) s14) s15) s16) s17) s18) _ _ hw5) (X.same (Same.trans (Same.trans (Same.trans (Same.trans (Same.trans (Same.trans (Same.trans (Same.trans (Same.trans (Same.trans (Same.trans (Same.trans s6 s7) s8) s9) s10) s11) s12) s13) s14) s15) s16) s17) s18)) T13 (by decide) (by decide) (by decide) (by decide) fun t14 H19 s19 T14 => ?_
    refine ⟨_, rfl, ?_⟩
    refine ⟨_, rfl, ?_⟩
    refine ⟨_, rfl, ?_⟩
    refine ⟨_, rfl, ?_⟩
    refine nil_go ?_
    try dsimp only
    refine use_times hp ew ((Same.trans (Same.trans (Same.trans (Same.trans (Same.trans (Same.trans (Same.trans (Same.trans (Same.trans (Same.trans (Same.trans (Same.trans (Same.trans s6 s7) s8) s9) s10) s11) s12) s13) s14) s15) s16) s17) s18) s19) _ _ hw5) (X.same (Same.trans (Same.trans (Same.trans (Same.trans (Same.trans (Same.trans (Same.trans (Same.trans (Same.trans (Same.trans (Same.trans (Same.trans (Same.trans s6 s7) s8) s9) s10) s11) s12) s13) s14) s15) s16) s17) s18) s19)) (Y.same (Same.trans (Same.trans (Same.trans (Same.trans (Same.trans (Same.trans (Same.trans (Same.trans (Same.trans (Same.trans (Same.trans (Same.trans (Same.trans s6 s7) s8) s9) s10) s11) s12) s13) s14) s15) s16) s17) s18) s19)) (by decide) (by decide) (by decide) (by decide) fun t15 H20 s20 T15 => ?_
    refine ⟨_, rfl, ?_⟩
    refine ⟨_, rfl, ?_⟩
    refine ⟨_, rfl, ?_⟩
    refine nil_go ?_
    try dsimp only
    refine use_times hp ew ((Same.trans (Same.trans (Same.trans (Same.trans (Same.trans (Same.trans (Same.trans (Same.trans (Same.trans (Same.trans (Same.trans (Same.trans (Same.trans (Same.trans s6 s7) s8) s9) s10) s11) s12) s13) s14) s15) s16) s17) s18) s19) s20) _ _ hw5) (X.same (Same.trans (Same.trans (Same.trans (Same.trans (Same.trans (Same.trans (Same.trans (Same.trans (Same.trans (Same.trans (Same.trans (Same.trans (Same.trans (Same.trans s6 s7) s8) s9) s10) s11) s12) s13) s14) s15) s16) s17) s18) s19) s20)) (Z.same (Same.trans (Same.trans (Same.trans (Same.trans (Same.trans (Same.trans (Same.trans (Same.trans (Same.trans (Same.trans (Same.trans (Same.trans (Same.trans (Same.trans s6 s7) s8) s9) s10) s11) s12) s13) s14) s15) s16) s17) s18) s19) s20)) (by decide) (by decide) (by decide) (by decide) fun t16 H21 s21 T16 => ?_
    refine nil_go ?_
    try dsimp only
    refine use_plus hp ew ((Same.trans (Same.trans (Same.trans (Same.trans (Same.trans (Same.trans (Same.trans (Same.trans (Same.trans (Same.trans (Same.trans (Same.trans (Same.trans (Same.trans (Same.trans s6 s7) s8) s9) s10) s11) s12) s13) s14) s15) s16) s17) s18) s19) s20) s21) _ _ hw5) (T15.same s21) T16 (by decide) (by decide) (by decide) (by decide) fun t17 H22 s22 T17 => ?_
    refine ne_pr (T14.same (Same.trans (Same.trans s20 s21) s22)) T17 (fun _ => by grind) (fun c => by congr 1; grind) ⟨_, rfl, iteF ?_⟩
    refine ⟨_, rfl, ?_⟩
    refine ⟨_, rfl, ?_⟩
    refine ⟨_, rfl, ?_⟩
    refine ⟨_, rfl, ?_⟩
    refine nil_go ?_
    try dsimp only
    refine use_plus hp ew ((Same.trans (Same.trans (Same.trans (Same.trans (Same.trans (Same.trans (Same.trans (Same.trans (Same.trans (Same.trans (Same.trans (Same.trans (Same.trans (Same.trans (Same.trans (Same.trans s6 s7) s8) s9) s10) s11) s12) s13) s14) s15) s16) s17) s18) s19) s20) s21) s22) _ _ hw5) (X.same (Same.trans (Same.trans (Same.trans (Same.trans (Same.trans (Same.trans (Same.trans (Same.trans (Same.trans (Same.trans (Same.trans (Same.trans (Same.trans (Same.trans (Same.trans (Same.trans s6 s7) s8) s9) s10) s11) s12) s13) s14) s15) s16) s17) s18) s19) s20) s21) s22)) (Y.same (Same.trans (Same.trans (Same.trans (Same.trans (Same.trans (Same.trans (Same.trans (Same.trans (Same.trans (Same.trans (Same.trans (Same.trans (Same.trans (Same.trans (Same.trans (Same.trans s6 s7) s8) s9) s10) s11) s12) s13) s14) s15) s16) s17) s18) s19) s20) s21) s22)) (by decide) (by decide) (by decide) (by decide) fun t18 H23 s23 T18 => ?_
    refine ⟨_, rfl, ?_⟩
    refine nil_go ?_
    try dsimp only
    refine use_minus hp ew ((Same.trans (Same.trans (Same.trans (Same.trans (Same.trans (Same.trans (Same.trans (Same.trans (Same.trans (Same.trans (Same.trans (Same.trans (Same.trans (Same.trans (Same.trans (Same.trans (Same.trans s6 s7) s8) s9) s10) s11) s12) s13) s14) s15) s16) s17) s18) s19) s20) s21) s22) s23) _ _ hw5) T18 (Y.same (Same.trans (Same.trans (Same.trans (Same.trans (Same.trans (Same.trans (Same.trans (Same.trans (Same.trans (Same.trans (Same.trans (Same.trans (Same.trans (Same.trans (Same.trans (Same.trans (Same.trans s6 s7) s8) s9) s10) s11) s12) s13) s14) s15) s16) s17) s18) s19) s20) s21) s22) s23)) (by decide) (by decide) (by decide) (by decide) fun t19 H24 s24 T19 => ?_
    refine ⟨_, rfl, ?_⟩
    refine ne_pr T19 (X.same (Same.trans (Same.trans (Same.trans (Same.trans (Same.trans (Same.trans (Same.trans (Same.trans (Same.trans (Same.trans (Same.trans (Same.trans (Same.trans (Same.trans (Same.trans (Same.trans (Same.trans (Same.trans s6 s7) s8) s9) s10) s11) s12) s13) s14) s15) s16) s17) s18) s19) s20) s21) s22) s23) s24)) (fun _ => by grind) (fun c => by congr 1; grind) ⟨_, rfl, iteF ?_⟩
    refine ⟨_, rfl, ?_⟩
    refine ⟨_, rfl, ?_⟩
    refine ⟨_, rfl, ?_⟩
    refine ⟨_, rfl, ?_⟩
    refine nil_go ?_
    try dsimp only
    refine use_minus hp ew ((Same.trans (Same.trans (Same.trans (Same.trans (Same.trans (Same.trans (Same.trans (Same.trans (Same.trans (Same.trans (Same.trans (Same.trans (Same.trans (Same.trans (Same.trans (Same.trans (Same.trans (Same.trans s6 s7) s8) s9) s10) s11) s12) s13) s14) s15) s16) s17) s18) s19) s20) s21) s22) s23) s24) _ _ hw5) (X.same (Same.trans (Same.trans (Same.trans (Same.trans (Same.trans (Same.trans (Same.trans (Same.trans (Same.trans (Same.trans (Same.trans (Same.trans (Same.trans (Same.trans (Same.trans (Same.trans (Same.trans (Same.trans s6 s7) s8) s9) s10) s11) s12) s13) s14) s15) s16) s17) s18) s19) s20) s21) s22) s23) s24)) (Y.same (Same.trans (Same.trans (Same.trans (Same.trans (Same.trans (Same.trans (Same.trans (Same.trans (Same.trans (Same.trans (Same.trans (Same.trans (Same.trans (Same.trans (Same.trans (Same.trans (Same.trans (Same.trans s6 s7) s8) s9) s10) s11) s12) s13) s14) s15) s16) s17) s18) s19) s20) s21) s22) s23) s24)) (by decide) (by decide) (by decide) (by decide) fun t20 H25 s25 T20 => ?_
    refine ⟨_, rfl, ?_⟩
    refine nil_go ?_
    try dsimp only
    refine use_plus hp ew ((Same.trans (Same.trans (Same.trans (Same.trans (Same.trans (Same.trans (Same.trans (Same.trans (Same.trans (Same.trans (Same.trans (Same.trans (Same.trans (Same.trans (Same.trans (Same.trans (Same.trans (Same.trans (Same.trans s6 s7) s8) s9) s10) s11) s12) s13) s14) s15) s16) s17) s18) s19) s20) s21) s22) s23) s24) s25) _ _ hw5) T20 (Y.same (Same.trans (Same.trans (Same.trans (Same.trans (Same.trans (Same.trans (Same.trans (Same.trans (Same.trans (Same.trans (Same.trans (Same.trans (Same.trans (Same.trans (Same.trans (Same.trans (Same.trans (Same.trans (Same.trans s6 s7) s8) s9) s10) s11) s12) s13) s14) s15) s16) s17) s18) s19) s20) s21) s22) s23) s24) s25)) (by decide) (by decide) (by decide) (by decide) fun t21 H26 s26 T21 => ?_
    refine ⟨_, rfl, ?_⟩
    refine ne_pr T21 (X.same (Same.trans (Same.trans (Same.trans (Same.trans (Same.trans (Same.trans (Same.trans (Same.trans (Same.trans (Same.trans (Same.trans (Same.trans (Same.trans (Same.trans (Same.trans (Same.trans (Same.trans (Same.trans (Same.trans (Same.trans s6 s7) s8) s9) s10) s11) s12) s13) s14) s15) s16) s17) s18) s19) s20) s21) s22) s23) s24) s25) s26)) (fun _ => by grind) (fun c => by congr 1; grind) ⟨_, rfl, iteF ?_⟩
    -- y != (0, 1)
    refine ⟨fun σ' H' => σ' = [some (.ref sc), some (.ref r), some (.ref xw), some (.ref xx), some (.ref xy), some (.ref xz), none, none, none, none] ∧ Same H26 H', ?_, ?_⟩
    · refine ⟨_, rfl, (by show 2 ≤ sizeLine; decide), fun t0 n0 => ?_⟩
      have s27 : Same H26 (upd H26 t0 (.tup [.int 0, .int 1])) := same_upd n0
      have h01 : upd H26 t0 (.tup [.int 0, .int 1]) t0 = some (.tup [.int 0, .int 1]) := upd_same
      revert s27 h01
      generalize upd H26 t0 (.tup [.int 0, .int 1]) = H27
      intro s27 h01
      by_cases c01 : a' = 0 ∧ b' = 1
      · obtain ⟨ca, cb⟩ := c01
        refine ne_pairT (u := 0) (v := 1) (by rw [(Same.trans (Same.trans (Same.trans (Same.trans (Same.trans (Same.trans (Same.trans (Same.trans (Same.trans (Same.trans (Same.trans (Same.trans (Same.trans (Same.trans (Same.trans (Same.trans (Same.trans (Same.trans (Same.trans (Same.trans (Same.trans s6 s7) s8) s9) s10) s11) s12) s13) s14) s15) s16) s17) s18) s19) s20) s21) s22) s23) s24) s25) s26) s27) _ _ hy5, ca, cb]) h01 ⟨_, rfl, iteF (iteF ⟨rfl, s27⟩)⟩
      · refine ⟨_, _, .tup (.inl (.inl ((Same.trans (Same.trans (Same.trans (Same.trans (Same.trans (Same.trans (Same.trans (Same.trans (Same.trans (Same.trans (Same.trans (Same.trans (Same.trans (Same.trans (Same.trans (Same.trans (Same.trans (Same.trans (Same.trans (Same.trans (Same.trans s6 s7) s8) s9) s10) s11) s12) s13) s14) s15) s16) s17) s18) s19) s20) s21) s22) s23) s24) s25) s26) s27) _ _ hy5))) (.cons (.int _) (.cons (.int _) .nil)), .tup (.inl (.inl h01)) (.cons (.int _) (.cons (.int _) .nil)), rfl, rfl, ?_⟩
        rw [eqv_01 c01]
        refine ⟨_, rfl, iteT ?_⟩
        have nry : p = 0 → ry ≠ 0 := fun c z => by
          obtain ⟨_, e1, e2⟩ := NY.resolve_right (fun y => y.1 c)
          rw [z] at e1 e2
          exact c01 ⟨e1, e2⟩
        have nny : p ≠ 0 → ny % p ≠ 0 := fun c z => by
          obtain ⟨_, e1, e2⟩ := NY.resolve_left (fun y => c y.1)
          rw [z] at e1
          exact c01 ⟨e1, e2⟩
        refine ⟨_, rfl, ?_⟩
        refine ⟨_, rfl, ?_⟩
        refine ⟨_, rfl, ?_⟩
        refine ⟨_, rfl, ?_⟩
        refine nil_go ?_
        try dsimp only
        refine use_times hp ew ((Same.trans (Same.trans (Same.trans (Same.trans (Same.trans (Same.trans (Same.trans (Same.trans (Same.trans (Same.trans (Same.trans (Same.trans (Same.trans (Same.trans (Same.trans (Same.trans (Same.trans (Same.trans (Same.trans (Same.trans (Same.trans s6 s7) s8) s9) s10) s11) s12) s13) s14) s15) s16) s17) s18) s19) s20) s21) s22) s23) s24) s25) s26) s27) _ _ hw5) (X.same (Same.trans (Same.trans (Same.trans (Same.trans (Same.trans (Same.trans (Same.trans (Same.trans (Same.trans (Same.trans (Same.trans (Same.trans (Same.trans (Same.trans (Same.trans (Same.trans (Same.trans (Same.trans (Same.trans (Same.trans (Same.trans s6 s7) s8) s9) s10) s11) s12) s13) s14) s15) s16) s17) s18) s19) s20) s21) s22) s23) s24) s25) s26) s27)) (Y.same (Same.trans (Same.trans (Same.trans (Same.trans (Same.trans (Same.trans (Same.trans (Same.trans (Same.trans (Same.trans (Same.trans (Same.trans (Same.trans (Same.trans (Same.trans (Same.trans (Same.trans (Same.trans (Same.trans (Same.trans (Same.trans s6 s7) s8) s9) s10) s11) s12) s13) s14) s15) s16) s17) s18) s19) s20) s21) s22) s23) s24) s25) s26) s27)) (by decide) (by decide) (by decide) (by decide) fun t22 H28 s28 T22 => ?_
        refine ⟨_, rfl, ?_⟩
        refine nil_go ?_
        try dsimp only
        refine use_over hp ew ((Same.trans (Same.trans (Same.trans (Same.trans (Same.trans (Same.trans (Same.trans (Same.trans (Same.trans (Same.trans (Same.trans (Same.trans (Same.trans (Same.trans (Same.trans (Same.trans (Same.trans (Same.trans (Same.trans (Same.trans (Same.trans (Same.trans s6 s7) s8) s9) s10) s11) s12) s13) s14) s15) s16) s17) s18) s19) s20) s21) s22) s23) s24) s25) s26) s27) s28) _ _ hw5) T22 (Y.same (Same.trans (Same.trans (Same.trans (Same.trans (Same.trans (Same.trans (Same.trans (Same.trans (Same.trans (Same.trans (Same.trans (Same.trans (Same.trans (Same.trans (Same.trans (Same.trans (Same.trans (Same.trans (Same.trans (Same.trans (Same.trans (Same.trans s6 s7) s8) s9) s10) s11) s12) s13) s14) s15) s16) s17) s18) s19) s20) s21) s22) s23) s24) s25) s26) s27) s28)) (by decide) (by decide) (by decide) (by decide) (by decide) nry nny fun t23 H29 m23 s29 T23 M23 => ?_
        refine ⟨_, rfl, ?_⟩
        refine ne_pr T23 (X.same (Same.trans (Same.trans (Same.trans (Same.trans (Same.trans (Same.trans (Same.trans (Same.trans (Same.trans (Same.trans (Same.trans (Same.trans (Same.trans (Same.trans (Same.trans (Same.trans (Same.trans (Same.trans (Same.trans (Same.trans (Same.trans (Same.trans (Same.trans s6 s7) s8) s9) s10) s11) s12) s13) s14) s15) s16) s17) s18) s19) s20) s21) s22) s23) s24) s25) s26) s27) s28) s29)) (fun _ => by have := nry ‹_›; grind) (fun c => over_back (hp.resolve_left c) (nny c) (M23 c)) ⟨_, rfl, iteF ?_⟩
        refine ⟨_, rfl, ?_⟩
        refine ⟨_, rfl, ?_⟩
        refine ⟨_, rfl, ?_⟩
        refine ⟨_, rfl, ?_⟩
        refine nil_go ?_
        try dsimp only
        refine use_over hp ew ((Same.trans (Same.trans (Same.trans (Same.trans (Same.trans (Same.trans (Same.trans (Same.trans (Same.trans (Same.trans (Same.trans (Same.trans (Same.trans (Same.trans (Same.trans (Same.trans (Same.trans (Same.trans (Same.trans (Same.trans (Same.trans (Same.trans (Same.trans s6 s7) s8) s9) s10) s11) s12) s13) s14) s15) s16) s17) s18) s19) s20) s21) s22) s23) s24) s25) s26) s27) s28) s29) _ _ hw5) (X.same (Same.trans (Same.trans (Same.trans (Same.trans (Same.trans (Same.trans (Same.trans (Same.trans (Same.trans (Same.trans (Same.trans (Same.trans (Same.trans (Same.trans (Same.trans (Same.trans (Same.trans (Same.trans (Same.trans (Same.trans (Same.trans (Same.trans (Same.trans s6 s7) s8) s9) s10) s11) s12) s13) s14) s15) s16) s17) s18) s19) s20) s21) s22) s23) s24) s25) s26) s27) s28) s29)) (Y.same (Same.trans (Same.trans (Same.trans (Same.trans (Same.trans (Same.trans (Same.trans (Same.trans (Same.trans (Same.trans (Same.trans (Same.trans (Same.trans (Same.trans (Same.trans (Same.trans (Same.trans (Same.trans (Same.trans (Same.trans (Same.trans (Same.trans (Same.trans s6 s7) s8) s9) s10) s11) s12) s13) s14) s15) s16) s17) s18) s19) s20) s21) s22) s23) s24) s25) s26) s27) s28) s29)) (by decide) (by decide) (by decide) (by decide) (by decide) nry nny fun t24 H30 m24 s30 T24 M24 => ?_
        refine ⟨_, rfl, ?_⟩
        refine nil_go ?_
        try dsimp only
        refine use_times hp ew ((Same.trans (Same.trans (Same.trans (Same.trans (Same.trans (Same.trans (Same.trans (Same.trans (Same.trans (Same.trans (Same.trans (Same.trans (Same.trans (Same.trans (Same.trans (Same.trans (Same.trans (Same.trans (Same.trans (Same.trans (Same.trans (Same.trans (Same.trans (Same.trans s6 s7) s8) s9) s10) s11) s12) s13) s14) s15) s16) s17) s18) s19) s20) s21) s22) s23) s24) s25) s26) s27) s28) s29) s30) _ _ hw5) T24 (Y.same (Same.trans (Same.trans (Same.trans (Same.trans (Same.trans (Same.trans (Same.trans (Same.trans (Same.trans (Same.trans (Same.trans (Same.trans (Same.trans (Same.trans (Same.trans (Same.trans (Same.trans (Same.trans (Same.trans (Same.trans (Same.trans (Same.trans (Same.trans (Same.trans s6 s7) s8) s9) s10) s11) s12) s13) s14) s15) s16) s17) s18) s19) s20) s21) s22) s23) s24) s25) s26) s27) s28) s29) s30)) (by decide) (by decide) (by decide) (by decide) fun t25 H31 s31 T25 => ?_
        refine ⟨_, rfl, ?_⟩
        refine ne_pr T25 (X.same (Same.trans (Same.trans (Same.trans (Same.trans (Same.trans (Same.trans (Same.trans (Same.trans (Same.trans (Same.trans (Same.trans (Same.trans (Same.trans (Same.trans (Same.trans (Same.trans (Same.trans (Same.trans (Same.trans (Same.trans (Same.trans (Same.trans (Same.trans (Same.trans (Same.trans s6 s7) s8) s9) s10) s11) s12) s13) s14) s15) s16) s17) s18) s19) s20) s21) s22) s23) s24) s25) s26) s27) s28) s29) s30) s31)) (fun _ => by have := nry ‹_›; grind) (fun c => Int.emod_eq_emod_iff_emod_sub_eq_zero.mpr (M24 c)) ⟨_, rfl, iteF ?_⟩
        exact ⟨rfl, (Same.trans (Same.trans (Same.trans (Same.trans s27 s28) s29) s30) s31)⟩
    · rintro σ' K0 ⟨rfl, sC⟩
      have sA : Same H5 K0 := Same.trans (Same.trans (Same.trans (Same.trans (Same.trans (Same.trans (Same.trans (Same.trans (Same.trans (Same.trans (Same.trans (Same.trans (Same.trans (Same.trans (Same.trans (Same.trans (Same.trans (Same.trans (Same.trans (Same.trans (Same.trans s6 s7) s8) s9) s10) s11) s12) s13) s14) s15) s16) s17) s18) s19) s20) s21) s22) s23) s24) s25) s26) sC
      have hL0 := sA _ _ hL5
      refine ⟨_, rfl, r, ds5, rfl, hL0, fun n6 ds6 => .inl ⟨n6, rfl, n6, 9, rfl, rfl, (show (0 : Int) < 9 by decide), ?_⟩⟩
      refine ⟨_, rfl, r, ds6, rfl, upd_same, fun n7 ds7 => .inl ⟨n7, rfl, n7, 9, rfl, rfl, (show (0 : Int) < 9 by decide), ?_⟩⟩
      have m6 := mod_lt8 n6 (show (0 : Int) < 9 by decide)
      have m7 := mod_lt8 n7 (show (0 : Int) < 9 by decide)
      have sb : SameBut r K0 (upd (upd K0 r (.lst (ds6.map V.int))) r (.lst (ds7.map V.int))) := SameBut.upd.trans SameBut.upd
      have wK := sb _ _ (Ne.symm hrw) (sA _ _ hw5)
      have xK := sb _ _ (Ne.symm hrx) (sA _ _ hx5)
      revert sb wK xK
      generalize upd (upd K0 r (.lst (ds6.map V.int))) r (.lst (ds7.map V.int)) = K1
      intro sb wK xK
      dsimp only
      generalize n6 % 9 = one at m6
      generalize n7 % 9 = two at m7
      -- powers
      refine ⟨_, rfl, ?_⟩
      refine ⟨_, rfl, ?_⟩
      refine ⟨_, rfl, ?_⟩
      refine ⟨_, rfl, ?_⟩
      refine nil_go ?_
      try dsimp only
      refine use_power hp ew wK xK NX ha9 hb (by omega) (by omega) fun t1 K2 c2 T1 => ?_
      refine ⟨_, rfl, ?_⟩
      refine ⟨_, rfl, ?_⟩
      refine ⟨_, rfl, ?_⟩
      refine nil_go ?_
      try dsimp only
      refine use_power hp ew (c2 _ _ wK) (c2 _ _ xK) NX ha9 hb (by omega) (by omega) fun t2 K3 c3 T2 => ?_
      refine nil_go ?_
      try dsimp only
      refine use_times hp ew (c3 _ _ (c2 _ _ wK)) (T1.same c3) T2 (by decide) (by decide) (by decide) (by decide) fun t3 K4 c4 T3 => ?_
      refine ⟨_, rfl, ?_⟩
      refine ⟨_, rfl, ?_⟩
      refine ⟨_, rfl, _, rfl, _, _, rfl, rfl, ?_⟩
      refine nil_go ?_
      try dsimp only
      refine use_power hp ew (c4 _ _ (c3 _ _ (c2 _ _ wK))) (c4 _ _ (c3 _ _ (c2 _ _ xK))) NX ha9 hb (by omega) (by omega) fun t4 K5 c5 T4 => ?_
      have en12 : (one + two).toNat = one.toNat + two.toNat := by omega
      rw [en12] at T4
      refine ne_pr (T3.same c5) T4 (fun _ => by grind) (fun c => by congr 1; grind) ⟨_, rfl, iteF ?_⟩
      have sK : Same K1 K5 := Same.trans (Same.trans (Same.trans c2 c3) c4) c5
      have w5 := sK _ _ wK
      have x5 := sK _ _ xK
      -- text
      have bpos : 0 < b := numOf_pos NX
      have la : a.natAbs < 10 ^ 60 := by omega
      have lb : b.natAbs < 10 ^ 60 := by omega
      have xa : atI [V.int a, V.int b] 0 = some (.int a) := atI_nat (j := 0) rfl
      have xb : atI [V.int a, V.int b] 1 = some (.int b) := atI_nat (j := 1) rfl
      have nw : ∀ {C : Prop}, isW p d = false → C := fun {C} z => by rw [ew] at z; exact nomatch z
      have nn : ∀ {C : Prop}, isN p a b = false → C := fun {C} z => by rw [en] at z; exact nomatch z
      refine ⟨_, rfl, _, rfl, xw, xx, p, d, a, b, rfl, .inl (.inl w5), .inl (.inl x5), nw, fun _ => nn, fun _ _ => ⟨la, lb, fun K6 c6 => ?_⟩⟩
      have w6 := c6 _ _ w5
      have x6 := c6 _ _ x5
      refine ⟨_, rfl, xx, _, 0, .int a, rfl, rfl, .inl (.inl x6), xa, a, rfl, log60 la, ?_⟩
      refine ⟨fun σ' H' => σ' = [some (.ref sc), some (.ref r), some (.ref xw), some (.ref xx), some (.ref xy), some (.ref xz), some (.int one), some (.int two), some (.str (numTx a b)), some (.str (numTx a b))] ∧ H' = K6, ?_, ?_⟩
      · have ea := intTx_eq (k := a) ha
        have eb := intTx_eq (k := b) (by omega)
        refine ⟨_, rfl, xx, _, 1, .int b, rfl, rfl, .inl (.inl x6), xb, _, _, rfl, rfl, _, rfl, ?_⟩
        by_cases c : b = 1
        · rw [decide_eq_false (show ¬ b > 1 by omega)]
          refine iteF ⟨?_, rfl⟩
          unfold numTx
          rw [if_pos c, ea]
          rfl
        · rw [decide_eq_true (show b > 1 by omega)]
          have szl : 200 ≤ sizeLine := by decide
          have e1 : ("/" : Str).length = 1 := by decide +kernel
          have la2 := intTx_len la
          have lb2 := intTx_len lb
          rw [ea] at la2
          rw [eb] at lb2
          have la3 : (Str.ofString (toString a)).length ≤ 61 := la2
          have lb3 : (Str.ofString (toString b)).length ≤ 61 := lb2
          refine iteT ⟨_, rfl, _, _, rfl, rfl, by omega, _, rfl, xx, _, 1, .int b, rfl, rfl, .inl (.inl x6), xb, b, rfl, log60 lb, _, _, rfl, rfl, by rw [len_cat]; omega, ?_, rfl⟩
          unfold numTx
          rw [if_neg c, ea, eb]
          rfl
      · rintro σ' H' ⟨rfl, rfl⟩
        refine ⟨_, rfl, _, rfl, rfl, _, rfl, ?_⟩
        rw [decide_eq_true rfl]
        refine iteF ?_
        refine ⟨_, rfl, _, rfl, xw, p, d, a, b, rfl, .inl (.inl w6), ew, en, la, lb, rdOk_small ha bpos hb, fun t5 K7 c7 ht5 => ?_⟩
        refine ⟨_, rfl, ?_⟩
        have w7 := c7 _ _ w6
        have x7 := c7 _ _ x6
        refine ne_pairT ht5 x7 ⟨_, rfl, iteF ?_⟩
        have dv : DivOk b := .inl (by omega)
        have nbd : ¬ bad p b := bad_self NX hp
        refine ⟨_, rfl, _, rfl, xx, _, 0, .int a, rfl, rfl, .inl (.inl x7), xa, _, rfl, xx, _, 1, .int b, rfl, rfl, .inl (.inl x7), xb, xw, p, d, a, b, rfl, .inl (.inl w7), dv, nw, fun _ z => absurd z nbd, fun _ _ t6 u6 v6 hn6 nt6 => ?_⟩
        obtain ⟨e6, f6⟩ := num_unique hp nbd hn6 (num_self NX hp)
        rw [e6, f6]
        have c8 : Same K7 (upd K7 t6 (.tup [.int a, .int b])) := same_upd nt6
        have ht6 : upd K7 t6 (.tup [.int a, .int b]) t6 = some (.tup [.int a, .int b]) := upd_same
        revert c8 ht6
        generalize upd K7 t6 (.tup [.int a, .int b]) = K8
        intro c8 ht6
        refine ⟨_, rfl, ?_⟩
        refine ne_pairT ht6 (c8 _ _ x7) ⟨_, rfl, iteF ?_⟩
        have w8 := c8 _ _ w7
        refine ⟨_, rfl, xw, p, d, rfl, .inl (.inl w8), nw, fun _ t9 nt9 => ?_⟩
        have c9 : Same K8 (upd K8 t9 (.tup [.int d, .int 1])) := same_upd nt9
        have ht9 : upd K8 t9 (.tup [.int d, .int 1]) t9 = some (.tup [.int d, .int 1]) := upd_same
        revert c9 ht9
        generalize upd K8 t9 (.tup [.int d, .int 1]) = K9
        intro c9 ht9
        have w9 := c9 _ _ w8
        have wd : atI [V.int p, V.int d] 1 = some (.int d) := atI_nat (j := 1) rfl
        have nb1 : ¬ bad p 1 := fun z => by
          rcases z with z | ⟨z1, z2⟩
          · cases z
          · have hp2 := prime_pos (hp.resolve_left (by omega))
            rw [Int.emod_eq_of_lt (by decide) (by omega)] at z2
            cases z2
        refine ⟨_, rfl, _, rfl, xw, _, 1, .int d, rfl, rfl, .inl (.inl w9), wd, xw, p, d, d, 1, rfl, .inl (.inl w9), .inl (by decide), nw, fun _ z => absurd z nb1, fun _ _ t10 u10 v10 hn10 nt10 => ?_⟩
        obtain ⟨e10, f10⟩ := num_one ew hn10
        rw [e10, f10]
        exact eq_pair (same_upd nt10 _ _ ht9) upd_same (q _)
end

theorem all_mk {P : Program} {w : World} {K : PySem.W.Frag} {h : Heap} {mg : Str → Option Value} {fa : Addr} (X : K.In h) (G : h.Ns mainGlobals mg) (hfa : mg "law" = some (.ref fa))
    {f_is_world : Addr} {od_is_world an_is_world : Option Addr} {sl_is_world : Array (Option Value)} {oc_is_world kV_is_world dc_is_world pm_is_world cd_is_world ct_is_world : Value}
    {f_law_plain : Addr} {od_law_plain an_law_plain : Option Addr} {sl_law_plain : Array (Option Value)} {oc_law_plain kV_law_plain dc_law_plain pm_law_plain cd_law_plain ct_law_plain : Value}
    {f_law_next : Addr} {od_law_next an_law_next : Option Addr} {sl_law_next : Array (Option Value)} {oc_law_next kV_law_next dc_law_next pm_law_next cd_law_next ct_law_next : Value}
    {f_law_draws : Addr} {od_law_draws an_law_draws : Option Addr} {sl_law_draws : Array (Option Value)} {oc_law_draws kV_law_draws dc_law_draws pm_law_draws cd_law_draws ct_law_draws : Value}
    {f_check_world : Addr} {od_check_world an_check_world : Option Addr} {sl_check_world : Array (Option Value)} {oc_check_world kV_check_world dc_check_world pm_check_world cd_check_world ct_check_world : Value}
    {f_is_number : Addr} {od_is_number an_is_number : Option Addr} {sl_is_number : Array (Option Value)} {oc_is_number kV_is_number dc_is_number pm_is_number cd_is_number ct_is_number : Value}
    {f_check_number : Addr} {od_check_number an_check_number : Option Addr} {sl_check_number : Array (Option Value)} {oc_check_number kV_check_number dc_check_number pm_check_number cd_check_number ct_check_number : Value}
    {f_lowest_ : Addr} {od_lowest_ an_lowest_ : Option Addr} {sl_lowest_ : Array (Option Value)} {oc_lowest_ kV_lowest_ dc_lowest_ pm_lowest_ cd_lowest_ ct_lowest_ : Value}
    {f_inverse_ : Addr} {od_inverse_ an_inverse_ : Option Addr} {sl_inverse_ : Array (Option Value)} {oc_inverse_ kV_inverse_ dc_inverse_ pm_inverse_ cd_inverse_ ct_inverse_ : Value}
    {dT_number : Addr}
    {f_number : Addr} {od_number an_number : Option Addr} {sl_number : Array (Option Value)} {oc_number kV_number dc_number pm_number cd_number ct_number : Value}
    {f_loop_worth : Addr} {od_loop_worth an_loop_worth : Option Addr} {sl_loop_worth : Array (Option Value)} {oc_loop_worth kV_loop_worth dc_loop_worth pm_loop_worth cd_loop_worth ct_loop_worth : Value}
    {f_law_lowest : Addr} {od_law_lowest an_law_lowest : Option Addr} {sl_law_lowest : Array (Option Value)} {oc_law_lowest kV_law_lowest dc_law_lowest pm_law_lowest cd_law_lowest ct_law_lowest : Value}
    {f_law_world : Addr} {od_law_world an_law_world : Option Addr} {sl_law_world : Array (Option Value)} {oc_law_world kV_law_world dc_law_world pm_law_world cd_law_world ct_law_world : Value}
    {f_law_number : Addr} {od_law_number an_law_number : Option Addr} {sl_law_number : Array (Option Value)} {oc_law_number kV_law_number dc_law_number pm_law_number cd_law_number ct_law_number : Value}
    {f_check_two_ : Addr} {od_check_two_ an_check_two_ : Option Addr} {sl_check_two_ : Array (Option Value)} {oc_check_two_ kV_check_two_ dc_check_two_ pm_check_two_ cd_check_two_ ct_check_two_ : Value}
    {f_plus : Addr} {od_plus an_plus : Option Addr} {sl_plus : Array (Option Value)} {oc_plus kV_plus dc_plus pm_plus cd_plus ct_plus : Value}
    {f_minus : Addr} {od_minus an_minus : Option Addr} {sl_minus : Array (Option Value)} {oc_minus kV_minus dc_minus pm_minus cd_minus ct_minus : Value}
    {f_times : Addr} {od_times an_times : Option Addr} {sl_times : Array (Option Value)} {oc_times kV_times dc_times pm_times cd_times ct_times : Value}
    {f_over : Addr} {od_over an_over : Option Addr} {sl_over : Array (Option Value)} {oc_over kV_over dc_over pm_over cd_over ct_over : Value}
    {f_power : Addr} {od_power an_power : Option Addr} {sl_power : Array (Option Value)} {oc_power kV_power dc_power pm_power cd_power ct_power : Value}
    {f_integer_text_ : Addr} {od_integer_text_ an_integer_text_ : Option Addr} {sl_integer_text_ : Array (Option Value)} {oc_integer_text_ kV_integer_text_ dc_integer_text_ pm_integer_text_ cd_integer_text_ ct_integer_text_ : Value}
    {f_number_text : Addr} {od_number_text an_number_text : Option Addr} {sl_number_text : Array (Option Value)} {oc_number_text kV_number_text dc_number_text pm_number_text cd_number_text ct_number_text : Value}
    {f_Malformed_init : Addr} {od_Malformed_init an_Malformed_init : Option Addr} {sl_Malformed_init : Array (Option Value)} {oc_Malformed_init kV_Malformed_init dc_Malformed_init pm_Malformed_init cd_Malformed_init ct_Malformed_init : Value}
    {f_figure_count_ : Addr} {od_figure_count_ an_figure_count_ : Option Addr} {sl_figure_count_ : Array (Option Value)} {oc_figure_count_ kV_figure_count_ dc_figure_count_ pm_figure_count_ cd_figure_count_ ct_figure_count_ : Value}
    {f_is_integer_ : Addr} {od_is_integer_ an_is_integer_ : Option Addr} {sl_is_integer_ : Array (Option Value)} {oc_is_integer_ kV_is_integer_ dc_is_integer_ pm_is_integer_ cd_is_integer_ ct_is_integer_ : Value}
    {f_integer_of_ : Addr} {od_integer_of_ an_integer_of_ : Option Addr} {sl_integer_of_ : Array (Option Value)} {oc_integer_of_ kV_integer_of_ dc_integer_of_ pm_integer_of_ cd_integer_of_ ct_integer_of_ : Value}
    {f_read_any_number : Addr} {od_read_any_number an_read_any_number : Option Addr} {sl_read_any_number : Array (Option Value)} {oc_read_any_number kV_read_any_number dc_read_any_number pm_read_any_number cd_read_any_number ct_read_any_number : Value}
    {f_read_number : Addr} {od_read_number an_read_number : Option Addr} {sl_read_number : Array (Option Value)} {oc_read_number kV_read_number dc_read_number pm_read_number cd_read_number ct_read_number : Value}
    {f_law : Addr} {od_law an_law : Option Addr} {sl_law : Array (Option Value)} {oc_law kV_law dc_law pm_law cd_law ct_law : Value}
    {aP : Addr} {ddP : Option Addr} {nP : Nat} {slP : Array (Option Value)} {u2 u3 u5 u7 u11 u13 u17 u19 u23 u29 u31 : Tok}
    {CW : Addr}
    {CN : Addr}
    {CB : Addr}
    {dd_number : Option Addr} {un : Tok} {nn_number : Nat} {sd_number : Array (Option Value)}
    {tm_MOST_POWER : Tok}
    {tm_MOST_FIGURES : Tok}
    {tm_CHUNK_FIGURES : Tok}
    {tm_CHUNK : Tok}
    {aO : Addr} {ddO : Option Addr} {nO : Nat} {slO : Array (Option Value)} {uo1 uo2 : Tok}
    {CM N_Malformed : Addr} {nm_Malformed q_Malformed : Str} {bs_Malformed bm_Malformed sub_Malformed : List Value} {sn_Malformed : List Str} {ab_Malformed : Bool} {col_Malformed : Option Bool} {dd_Malformed : Option Addr} {m0_Malformed m1_Malformed m2_Malformed m3_Malformed m5_Malformed : Option Value}
    (a_is_world : PySem.W.nsIn K mainGlobals "is_world" = some (some (.ref f_is_world))) (l_is_world : K.lookup f_is_world = some ⟨oc_is_world, od_is_world, .func (PySem.W.fnOf "is_world" "is_world" (defArgs s_is_world) (defBody s_is_world) (defScope s_is_world) .none kV_is_world dc_is_world pm_is_world an_is_world cd_is_world ct_is_world), sl_is_world⟩) (c_is_world : PySem.W.codeIn K cd_is_world "is_world" = true) (k_is_world : PySem.W.keepIn K (.ref f_is_world) = true)
    (a_law_plain : PySem.W.nsIn K mainGlobals "_law_plain" = some (some (.ref f_law_plain))) (l_law_plain : K.lookup f_law_plain = some ⟨oc_law_plain, od_law_plain, .func (PySem.W.fnOf "_law_plain" "_law_plain" (defArgs s_law_plain) (defBody s_law_plain) (defScope s_law_plain) .none kV_law_plain dc_law_plain pm_law_plain an_law_plain cd_law_plain ct_law_plain), sl_law_plain⟩) (c_law_plain : PySem.W.codeIn K cd_law_plain "_law_plain" = true) (k_law_plain : PySem.W.keepIn K (.ref f_law_plain) = true)
    (a_law_next : PySem.W.nsIn K mainGlobals "_law_next" = some (some (.ref f_law_next))) (l_law_next : K.lookup f_law_next = some ⟨oc_law_next, od_law_next, .func (PySem.W.fnOf "_law_next" "_law_next" (defArgs s_law_next) (defBody s_law_next) (defScope s_law_next) .none kV_law_next dc_law_next pm_law_next an_law_next cd_law_next ct_law_next), sl_law_next⟩) (c_law_next : PySem.W.codeIn K cd_law_next "_law_next" = true) (k_law_next : PySem.W.keepIn K (.ref f_law_next) = true)
    (a_law_draws : PySem.W.nsIn K mainGlobals "_law_draws" = some (some (.ref f_law_draws))) (l_law_draws : K.lookup f_law_draws = some ⟨oc_law_draws, od_law_draws, .func (PySem.W.fnOf "_law_draws" "_law_draws" (defArgs s_law_draws) (defBody s_law_draws) (defScope s_law_draws) .none kV_law_draws dc_law_draws pm_law_draws an_law_draws cd_law_draws ct_law_draws), sl_law_draws⟩) (c_law_draws : PySem.W.codeIn K cd_law_draws "_law_draws" = true) (k_law_draws : PySem.W.keepIn K (.ref f_law_draws) = true)
    (a_check_world : PySem.W.nsIn K mainGlobals "check_world" = some (some (.ref f_check_world))) (l_check_world : K.lookup f_check_world = some ⟨oc_check_world, od_check_world, .func (PySem.W.fnOf "check_world" "check_world" (defArgs s_check_world) (defBody s_check_world) (defScope s_check_world) .none kV_check_world dc_check_world pm_check_world an_check_world cd_check_world ct_check_world), sl_check_world⟩) (c_check_world : PySem.W.codeIn K cd_check_world "check_world" = true) (k_check_world : PySem.W.keepIn K (.ref f_check_world) = true)
    (a_is_number : PySem.W.nsIn K mainGlobals "is_number" = some (some (.ref f_is_number))) (l_is_number : K.lookup f_is_number = some ⟨oc_is_number, od_is_number, .func (PySem.W.fnOf "is_number" "is_number" (defArgs s_is_number) (defBody s_is_number) (defScope s_is_number) .none kV_is_number dc_is_number pm_is_number an_is_number cd_is_number ct_is_number), sl_is_number⟩) (c_is_number : PySem.W.codeIn K cd_is_number "is_number" = true) (k_is_number : PySem.W.keepIn K (.ref f_is_number) = true)
    (a_check_number : PySem.W.nsIn K mainGlobals "check_number" = some (some (.ref f_check_number))) (l_check_number : K.lookup f_check_number = some ⟨oc_check_number, od_check_number, .func (PySem.W.fnOf "check_number" "check_number" (defArgs s_check_number) (defBody s_check_number) (defScope s_check_number) .none kV_check_number dc_check_number pm_check_number an_check_number cd_check_number ct_check_number), sl_check_number⟩) (c_check_number : PySem.W.codeIn K cd_check_number "check_number" = true) (k_check_number : PySem.W.keepIn K (.ref f_check_number) = true)
    (a_lowest_ : PySem.W.nsIn K mainGlobals "_lowest" = some (some (.ref f_lowest_))) (l_lowest_ : K.lookup f_lowest_ = some ⟨oc_lowest_, od_lowest_, .func (PySem.W.fnOf "_lowest" "_lowest" (defArgs s_lowest_) (defBody s_lowest_) (defScope s_lowest_) .none kV_lowest_ dc_lowest_ pm_lowest_ an_lowest_ cd_lowest_ ct_lowest_), sl_lowest_⟩) (c_lowest_ : PySem.W.codeIn K cd_lowest_ "_lowest" = true) (k_lowest_ : PySem.W.keepIn K (.ref f_lowest_) = true)
    (a_inverse_ : PySem.W.nsIn K mainGlobals "_inverse" = some (some (.ref f_inverse_))) (l_inverse_ : K.lookup f_inverse_ = some ⟨oc_inverse_, od_inverse_, .func (PySem.W.fnOf "_inverse" "_inverse" (defArgs s_inverse_) (defBody s_inverse_) (defScope s_inverse_) .none kV_inverse_ dc_inverse_ pm_inverse_ an_inverse_ cd_inverse_ ct_inverse_), sl_inverse_⟩) (c_inverse_ : PySem.W.codeIn K cd_inverse_ "_inverse" = true) (k_inverse_ : PySem.W.keepIn K (.ref f_inverse_) = true)
    (a_number : PySem.W.nsIn K mainGlobals "number" = some (some (.ref f_number))) (l_number : K.lookup f_number = some ⟨oc_number, od_number, .func (PySem.W.fnOf "number" "number" (defArgs s_number) (defBody s_number) (defScope s_number) (.ref dT_number) kV_number dc_number pm_number an_number cd_number ct_number), sl_number⟩) (c_number : PySem.W.codeIn K cd_number "number" = true) (k_number : PySem.W.keepIn K (.ref f_number) = true)
    (a_loop_worth : PySem.W.nsIn K mainGlobals "loop_worth" = some (some (.ref f_loop_worth))) (l_loop_worth : K.lookup f_loop_worth = some ⟨oc_loop_worth, od_loop_worth, .func (PySem.W.fnOf "loop_worth" "loop_worth" (defArgs s_loop_worth) (defBody s_loop_worth) (defScope s_loop_worth) .none kV_loop_worth dc_loop_worth pm_loop_worth an_loop_worth cd_loop_worth ct_loop_worth), sl_loop_worth⟩) (c_loop_worth : PySem.W.codeIn K cd_loop_worth "loop_worth" = true) (k_loop_worth : PySem.W.keepIn K (.ref f_loop_worth) = true)
    (a_law_lowest : PySem.W.nsIn K mainGlobals "_law_lowest" = some (some (.ref f_law_lowest))) (l_law_lowest : K.lookup f_law_lowest = some ⟨oc_law_lowest, od_law_lowest, .func (PySem.W.fnOf "_law_lowest" "_law_lowest" (defArgs s_law_lowest) (defBody s_law_lowest) (defScope s_law_lowest) .none kV_law_lowest dc_law_lowest pm_law_lowest an_law_lowest cd_law_lowest ct_law_lowest), sl_law_lowest⟩) (c_law_lowest : PySem.W.codeIn K cd_law_lowest "_law_lowest" = true) (k_law_lowest : PySem.W.keepIn K (.ref f_law_lowest) = true)
    (a_law_world : PySem.W.nsIn K mainGlobals "_law_world" = some (some (.ref f_law_world))) (l_law_world : K.lookup f_law_world = some ⟨oc_law_world, od_law_world, .func (PySem.W.fnOf "_law_world" "_law_world" (defArgs s_law_world) (defBody s_law_world) (defScope s_law_world) .none kV_law_world dc_law_world pm_law_world an_law_world cd_law_world ct_law_world), sl_law_world⟩) (c_law_world : PySem.W.codeIn K cd_law_world "_law_world" = true) (k_law_world : PySem.W.keepIn K (.ref f_law_world) = true)
    (a_law_number : PySem.W.nsIn K mainGlobals "_law_number" = some (some (.ref f_law_number))) (l_law_number : K.lookup f_law_number = some ⟨oc_law_number, od_law_number, .func (PySem.W.fnOf "_law_number" "_law_number" (defArgs s_law_number) (defBody s_law_number) (defScope s_law_number) .none kV_law_number dc_law_number pm_law_number an_law_number cd_law_number ct_law_number), sl_law_number⟩) (c_law_number : PySem.W.codeIn K cd_law_number "_law_number" = true) (k_law_number : PySem.W.keepIn K (.ref f_law_number) = true)
    (a_check_two_ : PySem.W.nsIn K mainGlobals "_check_two" = some (some (.ref f_check_two_))) (l_check_two_ : K.lookup f_check_two_ = some ⟨oc_check_two_, od_check_two_, .func (PySem.W.fnOf "_check_two" "_check_two" (defArgs s_check_two_) (defBody s_check_two_) (defScope s_check_two_) .none kV_check_two_ dc_check_two_ pm_check_two_ an_check_two_ cd_check_two_ ct_check_two_), sl_check_two_⟩) (c_check_two_ : PySem.W.codeIn K cd_check_two_ "_check_two" = true) (k_check_two_ : PySem.W.keepIn K (.ref f_check_two_) = true)
    (a_plus : PySem.W.nsIn K mainGlobals "plus" = some (some (.ref f_plus))) (l_plus : K.lookup f_plus = some ⟨oc_plus, od_plus, .func (PySem.W.fnOf "plus" "plus" (defArgs s_plus) (defBody s_plus) (defScope s_plus) .none kV_plus dc_plus pm_plus an_plus cd_plus ct_plus), sl_plus⟩) (c_plus : PySem.W.codeIn K cd_plus "plus" = true) (k_plus : PySem.W.keepIn K (.ref f_plus) = true)
    (a_minus : PySem.W.nsIn K mainGlobals "minus" = some (some (.ref f_minus))) (l_minus : K.lookup f_minus = some ⟨oc_minus, od_minus, .func (PySem.W.fnOf "minus" "minus" (defArgs s_minus) (defBody s_minus) (defScope s_minus) .none kV_minus dc_minus pm_minus an_minus cd_minus ct_minus), sl_minus⟩) (c_minus : PySem.W.codeIn K cd_minus "minus" = true) (k_minus : PySem.W.keepIn K (.ref f_minus) = true)
    (a_times : PySem.W.nsIn K mainGlobals "times" = some (some (.ref f_times))) (l_times : K.lookup f_times = some ⟨oc_times, od_times, .func (PySem.W.fnOf "times" "times" (defArgs s_times) (defBody s_times) (defScope s_times) .none kV_times dc_times pm_times an_times cd_times ct_times), sl_times⟩) (c_times : PySem.W.codeIn K cd_times "times" = true) (k_times : PySem.W.keepIn K (.ref f_times) = true)
    (a_over : PySem.W.nsIn K mainGlobals "over" = some (some (.ref f_over))) (l_over : K.lookup f_over = some ⟨oc_over, od_over, .func (PySem.W.fnOf "over" "over" (defArgs s_over) (defBody s_over) (defScope s_over) .none kV_over dc_over pm_over an_over cd_over ct_over), sl_over⟩) (c_over : PySem.W.codeIn K cd_over "over" = true) (k_over : PySem.W.keepIn K (.ref f_over) = true)
    (a_power : PySem.W.nsIn K mainGlobals "power" = some (some (.ref f_power))) (l_power : K.lookup f_power = some ⟨oc_power, od_power, .func (PySem.W.fnOf "power" "power" (defArgs s_power) (defBody s_power) (defScope s_power) .none kV_power dc_power pm_power an_power cd_power ct_power), sl_power⟩) (c_power : PySem.W.codeIn K cd_power "power" = true) (k_power : PySem.W.keepIn K (.ref f_power) = true)
    (a_integer_text_ : PySem.W.nsIn K mainGlobals "_integer_text" = some (some (.ref f_integer_text_))) (l_integer_text_ : K.lookup f_integer_text_ = some ⟨oc_integer_text_, od_integer_text_, .func (PySem.W.fnOf "_integer_text" "_integer_text" (defArgs s_integer_text_) (defBody s_integer_text_) (defScope s_integer_text_) .none kV_integer_text_ dc_integer_text_ pm_integer_text_ an_integer_text_ cd_integer_text_ ct_integer_text_), sl_integer_text_⟩) (c_integer_text_ : PySem.W.codeIn K cd_integer_text_ "_integer_text" = true) (k_integer_text_ : PySem.W.keepIn K (.ref f_integer_text_) = true)
    (a_number_text : PySem.W.nsIn K mainGlobals "number_text" = some (some (.ref f_number_text))) (l_number_text : K.lookup f_number_text = some ⟨oc_number_text, od_number_text, .func (PySem.W.fnOf "number_text" "number_text" (defArgs s_number_text) (defBody s_number_text) (defScope s_number_text) .none kV_number_text dc_number_text pm_number_text an_number_text cd_number_text ct_number_text), sl_number_text⟩) (c_number_text : PySem.W.codeIn K cd_number_text "number_text" = true) (k_number_text : PySem.W.keepIn K (.ref f_number_text) = true)
    (l_Malformed_init : K.lookup f_Malformed_init = some ⟨oc_Malformed_init, od_Malformed_init, .func (PySem.W.fnOf "__init__" "Malformed.__init__" (defArgs s_Malformed_init) (defBody s_Malformed_init) (defScope s_Malformed_init) .none kV_Malformed_init dc_Malformed_init pm_Malformed_init an_Malformed_init cd_Malformed_init ct_Malformed_init), sl_Malformed_init⟩) (c_Malformed_init : PySem.W.codeIn K cd_Malformed_init "Malformed.__init__" = true) (k_Malformed_init : PySem.W.keepIn K (.ref f_Malformed_init) = true)
    (a_figure_count_ : PySem.W.nsIn K mainGlobals "_figure_count" = some (some (.ref f_figure_count_))) (l_figure_count_ : K.lookup f_figure_count_ = some ⟨oc_figure_count_, od_figure_count_, .func (PySem.W.fnOf "_figure_count" "_figure_count" (defArgs s_figure_count_) (defBody s_figure_count_) (defScope s_figure_count_) .none kV_figure_count_ dc_figure_count_ pm_figure_count_ an_figure_count_ cd_figure_count_ ct_figure_count_), sl_figure_count_⟩) (c_figure_count_ : PySem.W.codeIn K cd_figure_count_ "_figure_count" = true) (k_figure_count_ : PySem.W.keepIn K (.ref f_figure_count_) = true)
    (a_is_integer_ : PySem.W.nsIn K mainGlobals "_is_integer" = some (some (.ref f_is_integer_))) (l_is_integer_ : K.lookup f_is_integer_ = some ⟨oc_is_integer_, od_is_integer_, .func (PySem.W.fnOf "_is_integer" "_is_integer" (defArgs s_is_integer_) (defBody s_is_integer_) (defScope s_is_integer_) .none kV_is_integer_ dc_is_integer_ pm_is_integer_ an_is_integer_ cd_is_integer_ ct_is_integer_), sl_is_integer_⟩) (c_is_integer_ : PySem.W.codeIn K cd_is_integer_ "_is_integer" = true) (k_is_integer_ : PySem.W.keepIn K (.ref f_is_integer_) = true)
    (a_integer_of_ : PySem.W.nsIn K mainGlobals "_integer_of" = some (some (.ref f_integer_of_))) (l_integer_of_ : K.lookup f_integer_of_ = some ⟨oc_integer_of_, od_integer_of_, .func (PySem.W.fnOf "_integer_of" "_integer_of" (defArgs s_integer_of_) (defBody s_integer_of_) (defScope s_integer_of_) .none kV_integer_of_ dc_integer_of_ pm_integer_of_ an_integer_of_ cd_integer_of_ ct_integer_of_), sl_integer_of_⟩) (c_integer_of_ : PySem.W.codeIn K cd_integer_of_ "_integer_of" = true) (k_integer_of_ : PySem.W.keepIn K (.ref f_integer_of_) = true)
    (a_read_any_number : PySem.W.nsIn K mainGlobals "read_any_number" = some (some (.ref f_read_any_number))) (l_read_any_number : K.lookup f_read_any_number = some ⟨oc_read_any_number, od_read_any_number, .func (PySem.W.fnOf "read_any_number" "read_any_number" (defArgs s_read_any_number) (defBody s_read_any_number) (defScope s_read_any_number) .none kV_read_any_number dc_read_any_number pm_read_any_number an_read_any_number cd_read_any_number ct_read_any_number), sl_read_any_number⟩) (c_read_any_number : PySem.W.codeIn K cd_read_any_number "read_any_number" = true) (k_read_any_number : PySem.W.keepIn K (.ref f_read_any_number) = true)
    (a_read_number : PySem.W.nsIn K mainGlobals "read_number" = some (some (.ref f_read_number))) (l_read_number : K.lookup f_read_number = some ⟨oc_read_number, od_read_number, .func (PySem.W.fnOf "read_number" "read_number" (defArgs s_read_number) (defBody s_read_number) (defScope s_read_number) .none kV_read_number dc_read_number pm_read_number an_read_number cd_read_number ct_read_number), sl_read_number⟩) (c_read_number : PySem.W.codeIn K cd_read_number "read_number" = true) (k_read_number : PySem.W.keepIn K (.ref f_read_number) = true)
    (a_law : PySem.W.nsIn K mainGlobals "law" = some (some (.ref f_law))) (l_law : K.lookup f_law = some ⟨oc_law, od_law, .func (PySem.W.fnOf "law" "law" (defArgs s_law) (defBody s_law) (defScope s_law) .none kV_law dc_law pm_law an_law cd_law ct_law), sl_law⟩) (c_law : PySem.W.codeIn K cd_law "law" = true) (k_law : PySem.W.keepIn K (.ref f_law) = true)
    (zn_int : PySem.W.nsIn K mainGlobals "int" = some none)
    (zn_range : PySem.W.nsIn K mainGlobals "range" = some none)
    (zn_abs : PySem.W.nsIn K mainGlobals "abs" = some none)
    (zn_str : PySem.W.nsIn K mainGlobals "str" = some none)
    (zn_divmod : PySem.W.nsIn K mainGlobals "divmod" = some none)
    (zn_len : PySem.W.nsIn K mainGlobals "len" = some none)
    (zn_all : PySem.W.nsIn K mainGlobals "all" = some none)
    (n_gcd : PySem.W.nsIn K mainGlobals "gcd" = some (some (.builtin "math.gcd")))
    (n_PRIMES : PySem.W.nsIn K mainGlobals "PRIMES" = some (some (.ref aP)))
    (l_PRIMES : K.lookup aP = some ⟨.type "tuple", ddP, .seq #[.int 2 u2, .int 3 u3, .int 5 u5, .int 7 u7, .int 11 u11, .int 13 u13, .int 17 u17, .int 19 u19, .int 23 u23, .int 29 u29, .int 31 u31] nP, slP⟩)
    (n_NotWorld : PySem.W.nsIn K mainGlobals "NotWorld" = some (some (.ref CW)))
    (x_NotWorld : PySem.W.excIn K CW [.type "ValueError", .type "Exception", .type "BaseException", .type "object"] "ValueError.__new__" = true)
    (kc_NotWorld : PySem.W.keepIn K (.ref CW) = true)
    (bc_NotWorld : PySem.W.subIn K (.ref CW) (.type "BaseException") = some true)
    (tc_NotWorld : PySem.W.typeIn K (.ref CW) = some (.type "type"))
    (n_NotNumber : PySem.W.nsIn K mainGlobals "NotNumber" = some (some (.ref CN)))
    (x_NotNumber : PySem.W.excIn K CN [.type "ValueError", .type "Exception", .type "BaseException", .type "object"] "ValueError.__new__" = true)
    (kc_NotNumber : PySem.W.keepIn K (.ref CN) = true)
    (bc_NotNumber : PySem.W.subIn K (.ref CN) (.type "BaseException") = some true)
    (tc_NotNumber : PySem.W.typeIn K (.ref CN) = some (.type "type"))
    (n_BadNumber : PySem.W.nsIn K mainGlobals "BadNumber" = some (some (.ref CB)))
    (x_BadNumber : PySem.W.excIn K CB [.type "ValueError", .type "Exception", .type "BaseException", .type "object"] "ValueError.__new__" = true)
    (kc_BadNumber : PySem.W.keepIn K (.ref CB) = true)
    (bc_BadNumber : PySem.W.subIn K (.ref CB) (.type "BaseException") = some true)
    (tc_BadNumber : PySem.W.typeIn K (.ref CB) = some (.type "type"))
    (ld_number : K.lookup dT_number = some ⟨.type "tuple", dd_number, .seq #[.int 1 un] nn_number, sd_number⟩)
    (n_MOST_POWER : PySem.W.nsIn K mainGlobals "MOST_POWER" = some (some (.int 200 tm_MOST_POWER)))
    (n_MOST_FIGURES : PySem.W.nsIn K mainGlobals "MOST_FIGURES" = some (some (.int 60 tm_MOST_FIGURES)))
    (n_CHUNK_FIGURES : PySem.W.nsIn K mainGlobals "CHUNK_FIGURES" = some (some (.int 60 tm_CHUNK_FIGURES)))
    (n_CHUNK : PySem.W.nsIn K mainGlobals "CHUNK" = some (some (.int 1000000000000000000000000000000000000000000000000000000000000 tm_CHUNK)))
    (n_ONE : PySem.W.nsIn K mainGlobals "ONE" = some (some (.ref aO)))
    (l_ONE : K.lookup aO = some ⟨.type "tuple", ddO, .seq #[.int 1 uo1, .int 1 uo2] nO, slO⟩)
    (n_Malformed : PySem.W.nsIn K mainGlobals "Malformed" = some (some (.ref CM)))
    (x_Malformed : K.lookup CM = some (excClassObj nm_Malformed q_Malformed CM N_Malformed bs_Malformed bm_Malformed true sn_Malformed sub_Malformed ab_Malformed col_Malformed dd_Malformed m0_Malformed m1_Malformed m2_Malformed m3_Malformed m5_Malformed "ValueError.__new__"))
    (r_Malformed : PySem.HandSPX.refsVE bm_Malformed = true)
    (sa_Malformed : PySem.W.findIn K (.ref CM) "__setattr__" = some (some (.builtin "object.__setattr__")))
    (ga_Malformed : PySem.W.findIn K (.ref CM) "__getattribute__" = some (some (.builtin "BaseException.__getattribute__")))
    (gg_Malformed : PySem.W.findIn K (.ref CM) "__getattr__" = some none)
    (na_Malformed : PySem.W.findIn K (.ref CM) "at" = some none)
    (ii_Malformed : PySem.W.findIn K (.ref CM) "__init__" = some (some (.ref f_Malformed_init)))
    (kc_Malformed : PySem.W.keepIn K (.ref CM) = true)
    (ec_Malformed : PySem.W.subIn K (.ref CM) (.type "BaseException") = some true)
    (tc_Malformed : PySem.W.typeIn K (.ref CM) = some (.type "type"))
    (hd_Malformed : PySem.W.hasDictIn K CM = true)
    (ti_Malformed : PySem.W.typeIn K (.ref f_Malformed_init) = some (.type "function"))
    (ss_Malformed : PySem.W.subIn K (.ref CM) (.ref CM) = some true)
    : ∃ fd : FuncData, (∀ (s : Shared) (v : Value), BindsTo s fd ⟨[v], []⟩ [("script", v)]) ∧ ∀ base : Heap, K.In base → base.Ns mainGlobals mg → FnG P w K mg base 9 fa fd ["script"] (spLaw K) := by
  have e := hfa.symm.trans (PySem.W.mg_of X G a_law)
  cases e
  have F_is_world := fun_mk (st := s_is_world) l_is_world c_is_world k_is_world
  have g_is_world := PySem.W.mg_of X G a_is_world
  have b_is_world := F_is_world.binds (ps := ["world"]) fun _ _ _ _ _ _ us hl => match us, hl with | [_], _ => rfl
  have F_law_plain := fun_mk (st := s_law_plain) l_law_plain c_law_plain k_law_plain
  have g_law_plain := PySem.W.mg_of X G a_law_plain
  have b_law_plain := F_law_plain.binds (ps := ["cell"]) fun _ _ _ _ _ _ us hl => match us, hl with | [_], _ => rfl
  have F_law_next := fun_mk (st := s_law_next) l_law_next c_law_next k_law_next
  have g_law_next := PySem.W.mg_of X G a_law_next
  have b_law_next := F_law_next.binds (ps := ["draws"]) fun _ _ _ _ _ _ us hl => match us, hl with | [_], _ => rfl
  have F_law_draws := fun_mk (st := s_law_draws) l_law_draws c_law_draws k_law_draws
  have g_law_draws := PySem.W.mg_of X G a_law_draws
  have b_law_draws := F_law_draws.binds (ps := ["script"]) fun _ _ _ _ _ _ us hl => match us, hl with | [_], _ => rfl
  have F_check_world := fun_mk (st := s_check_world) l_check_world c_check_world k_check_world
  have g_check_world := PySem.W.mg_of X G a_check_world
  have b_check_world := F_check_world.binds (ps := ["world"]) fun _ _ _ _ _ _ us hl => match us, hl with | [_], _ => rfl
  have F_is_number := fun_mk (st := s_is_number) l_is_number c_is_number k_is_number
  have g_is_number := PySem.W.mg_of X G a_is_number
  have b_is_number := F_is_number.binds (ps := ["world", "x"]) fun _ _ _ _ _ _ us hl => match us, hl with | [_, _], _ => rfl
  have F_check_number := fun_mk (st := s_check_number) l_check_number c_check_number k_check_number
  have g_check_number := PySem.W.mg_of X G a_check_number
  have b_check_number := F_check_number.binds (ps := ["world", "x"]) fun _ _ _ _ _ _ us hl => match us, hl with | [_, _], _ => rfl
  have F_lowest_ := fun_mk (st := s_lowest_) l_lowest_ c_lowest_ k_lowest_
  have g_lowest_ := PySem.W.mg_of X G a_lowest_
  have b_lowest_ := F_lowest_.binds (ps := ["a", "b"]) fun _ _ _ _ _ _ us hl => match us, hl with | [_, _], _ => rfl
  have F_inverse_ := fun_mk (st := s_inverse_) l_inverse_ c_inverse_ k_inverse_
  have g_inverse_ := PySem.W.mg_of X G a_inverse_
  have b_inverse_ := F_inverse_.binds (ps := ["p", "b"]) fun _ _ _ _ _ _ us hl => match us, hl with | [_, _], _ => rfl
  have F_number : FunA K "number" "number" s_number f_number _ := ⟨⟨_, _, _, _, _, _, _, _, _, _, rfl, l_number, c_number⟩, k_number⟩
  have g_number := PySem.W.mg_of X G a_number
  have F_loop_worth := fun_mk (st := s_loop_worth) l_loop_worth c_loop_worth k_loop_worth
  have g_loop_worth := PySem.W.mg_of X G a_loop_worth
  have b_loop_worth := F_loop_worth.binds (ps := ["world"]) fun _ _ _ _ _ _ us hl => match us, hl with | [_], _ => rfl
  have F_law_lowest := fun_mk (st := s_law_lowest) l_law_lowest c_law_lowest k_law_lowest
  have g_law_lowest := PySem.W.mg_of X G a_law_lowest
  have b_law_lowest := F_law_lowest.binds (ps := ["a", "b"]) fun _ _ _ _ _ _ us hl => match us, hl with | [_, _], _ => rfl
  have F_law_world := fun_mk (st := s_law_world) l_law_world c_law_world k_law_world
  have g_law_world := PySem.W.mg_of X G a_law_world
  have b_law_world := F_law_world.binds (ps := ["draws"]) fun _ _ _ _ _ _ us hl => match us, hl with | [_], _ => rfl
  have F_law_number := fun_mk (st := s_law_number) l_law_number c_law_number k_law_number
  have g_law_number := PySem.W.mg_of X G a_law_number
  have b_law_number := F_law_number.binds (ps := ["draws", "world"]) fun _ _ _ _ _ _ us hl => match us, hl with | [_, _], _ => rfl
  have F_check_two_ := fun_mk (st := s_check_two_) l_check_two_ c_check_two_ k_check_two_
  have g_check_two_ := PySem.W.mg_of X G a_check_two_
  have b_check_two_ := F_check_two_.binds (ps := ["world", "x", "y"]) fun _ _ _ _ _ _ us hl => match us, hl with | [_, _, _], _ => rfl
  have F_plus := fun_mk (st := s_plus) l_plus c_plus k_plus
  have g_plus := PySem.W.mg_of X G a_plus
  have b_plus := F_plus.binds (ps := ["world", "x", "y"]) fun _ _ _ _ _ _ us hl => match us, hl with | [_, _, _], _ => rfl
  have F_minus := fun_mk (st := s_minus) l_minus c_minus k_minus
  have g_minus := PySem.W.mg_of X G a_minus
  have b_minus := F_minus.binds (ps := ["world", "x", "y"]) fun _ _ _ _ _ _ us hl => match us, hl with | [_, _, _], _ => rfl
  have F_times := fun_mk (st := s_times) l_times c_times k_times
  have g_times := PySem.W.mg_of X G a_times
  have b_times := F_times.binds (ps := ["world", "x", "y"]) fun _ _ _ _ _ _ us hl => match us, hl with | [_, _, _], _ => rfl
  have F_over := fun_mk (st := s_over) l_over c_over k_over
  have g_over := PySem.W.mg_of X G a_over
  have b_over := F_over.binds (ps := ["world", "x", "y"]) fun _ _ _ _ _ _ us hl => match us, hl with | [_, _, _], _ => rfl
  have F_power := fun_mk (st := s_power) l_power c_power k_power
  have g_power := PySem.W.mg_of X G a_power
  have b_power := F_power.binds (ps := ["world", "x", "count"]) fun _ _ _ _ _ _ us hl => match us, hl with | [_, _, _], _ => rfl
  have F_integer_text_ := fun_mk (st := s_integer_text_) l_integer_text_ c_integer_text_ k_integer_text_
  have g_integer_text_ := PySem.W.mg_of X G a_integer_text_
  have b_integer_text_ := F_integer_text_.binds (ps := ["k"]) fun _ _ _ _ _ _ us hl => match us, hl with | [_], _ => rfl
  have F_number_text := fun_mk (st := s_number_text) l_number_text c_number_text k_number_text
  have g_number_text := PySem.W.mg_of X G a_number_text
  have b_number_text := F_number_text.binds (ps := ["world", "x"]) fun _ _ _ _ _ _ us hl => match us, hl with | [_, _], _ => rfl
  have F_Malformed_init := fun_mk (st := s_Malformed_init) l_Malformed_init c_Malformed_init k_Malformed_init
  have b_Malformed_init := F_Malformed_init.binds (ps := ["self", "at"]) fun _ _ _ _ _ _ us hl => match us, hl with | [_, _], _ => rfl
  have F_figure_count_ := fun_mk (st := s_figure_count_) l_figure_count_ c_figure_count_ k_figure_count_
  have g_figure_count_ := PySem.W.mg_of X G a_figure_count_
  have b_figure_count_ := F_figure_count_.binds (ps := ["word"]) fun _ _ _ _ _ _ us hl => match us, hl with | [_], _ => rfl
  have F_is_integer_ := fun_mk (st := s_is_integer_) l_is_integer_ c_is_integer_ k_is_integer_
  have g_is_integer_ := PySem.W.mg_of X G a_is_integer_
  have b_is_integer_ := F_is_integer_.binds (ps := ["word"]) fun _ _ _ _ _ _ us hl => match us, hl with | [_], _ => rfl
  have F_integer_of_ := fun_mk (st := s_integer_of_) l_integer_of_ c_integer_of_ k_integer_of_
  have g_integer_of_ := PySem.W.mg_of X G a_integer_of_
  have b_integer_of_ := F_integer_of_.binds (ps := ["word"]) fun _ _ _ _ _ _ us hl => match us, hl with | [_], _ => rfl
  have F_read_any_number := fun_mk (st := s_read_any_number) l_read_any_number c_read_any_number k_read_any_number
  have g_read_any_number := PySem.W.mg_of X G a_read_any_number
  have b_read_any_number := F_read_any_number.binds (ps := ["world", "text"]) fun _ _ _ _ _ _ us hl => match us, hl with | [_, _], _ => rfl
  have F_read_number := fun_mk (st := s_read_number) l_read_number c_read_number k_read_number
  have g_read_number := PySem.W.mg_of X G a_read_number
  have b_read_number := F_read_number.binds (ps := ["world", "text"]) fun _ _ _ _ _ _ us hl => match us, hl with | [_, _], _ => rfl
  have F_law := fun_mk (st := s_law) l_law c_law k_law
  have g_law := PySem.W.mg_of X G a_law
  have b_law := F_law.binds (ps := ["script"]) fun _ _ _ _ _ _ us hl => match us, hl with | [_], _ => rfl
  have z_int := PySem.W.mg_none_of X G zn_int
  have z_range := PySem.W.mg_none_of X G zn_range
  have z_abs := PySem.W.mg_none_of X G zn_abs
  have z_str := PySem.W.mg_none_of X G zn_str
  have z_divmod := PySem.W.mg_none_of X G zn_divmod
  have z_len := PySem.W.mg_none_of X G zn_len
  have z_all := PySem.W.mg_none_of X G zn_all
  have m_gcd := PySem.W.mg_of X G n_gcd
  have m_PRIMES := PySem.W.mg_of X G n_PRIMES
  have tP : ∀ H, SqT K H aP (primes.map V.int) := fun H => .inr ⟨_, _, _, l_PRIMES, rfl, rfl, (by show 11 ≤ sizeLine; decide), .cons ⟨_, rfl⟩ (.cons ⟨_, rfl⟩ (.cons ⟨_, rfl⟩ (.cons ⟨_, rfl⟩ (.cons ⟨_, rfl⟩ (.cons ⟨_, rfl⟩ (.cons ⟨_, rfl⟩ (.cons ⟨_, rfl⟩ (.cons ⟨_, rfl⟩ (.cons ⟨_, rfl⟩ (.cons ⟨_, rfl⟩ (.nil)))))))))))⟩
  have E_NotWorld : ErrC K mg "NotWorld" CW := ⟨PySem.W.mg_of X G n_NotWorld, x_NotWorld, kc_NotWorld, bc_NotWorld, tc_NotWorld⟩
  have E_NotNumber : ErrC K mg "NotNumber" CN := ⟨PySem.W.mg_of X G n_NotNumber, x_NotNumber, kc_NotNumber, bc_NotNumber, tc_NotNumber⟩
  have E_BadNumber : ErrC K mg "BadNumber" CB := ⟨PySem.W.mg_of X G n_BadNumber, x_BadNumber, kc_BadNumber, bc_BadNumber, tc_BadNumber⟩
  have b_number : Binds K (PySem.W.fnOf "number" "number" (defArgs s_number) (defBody s_number) (defScope s_number) (.ref dT_number) kV_number dc_number pm_number an_number cd_number ct_number) ["world", "a", "b"] [] := by
        obtain ⟨ds, hv, hb⟩ := FunD.binds1 (K := K) (kws := []) (dvs := [.int 1]) (ps := ["world", "a", "b"]) ⟨⟨_, _, _, _, _, _, _, _, _, _, rfl, l_number, c_number, .inr ⟨(fun z => nomatch z), dT_number, _, [_], _, rfl, ld_number, rfl, .cons ⟨_, rfl⟩ .nil⟩, .inl rfl⟩, k_number⟩ 3 1 (fun z => nomatch z) rfl
          (fun T kV doc pm an cdv ct us its hl hl2 => match us, its, hl, hl2 with | [_, _, _], [_], _, _ => ⟨_, rfl, rfl⟩)
        cases hv
        exact hb
  have m_MOST_POWER := PySem.W.mg_of X G n_MOST_POWER
  have m_MOST_FIGURES := PySem.W.mg_of X G n_MOST_FIGURES
  have m_CHUNK_FIGURES := PySem.W.mg_of X G n_CHUNK_FIGURES
  have m_CHUNK := PySem.W.mg_of X G n_CHUNK
  obtain ⟨un2, b_number2⟩ : ∃ t, Binds K (PySem.W.fnOf "number" "number" (defArgs s_number) (defBody s_number) (defScope s_number) (.ref dT_number) kV_number dc_number pm_number an_number cd_number ct_number) ["world", "a", "b"] [.int 1 t] := by
        obtain ⟨ds, hv, hb⟩ := FunD.binds1 (K := K) (kws := []) (dvs := [.int 1]) (ps := ["world", "a", "b"]) ⟨⟨_, _, _, _, _, _, _, _, _, _, rfl, l_number, c_number, .inr ⟨(fun z => nomatch z), dT_number, _, [_], _, rfl, ld_number, rfl, .cons ⟨_, rfl⟩ .nil⟩, .inl rfl⟩, k_number⟩ 2 0 (fun z => nomatch z) rfl
          (fun T kV doc pm an cdv ct us its hl hl2 => match us, its, hl, hl2 with | [_, _], [_], _, _ => ⟨_, rfl, rfl⟩)
        cases hv with
        | cons r1 r2 =>
          cases r2
          obtain ⟨t, rfl⟩ := r1
          exact ⟨t, hb⟩
  have m_ONE := PySem.W.mg_of X G n_ONE
  have tO : ∀ H, SqT K H aO [.int 1, .int 1] := fun H => .inr ⟨_, _, _, l_ONE, rfl, rfl, (by show 2 ≤ sizeLine; decide), .cons ⟨_, rfl⟩ (.cons ⟨_, rfl⟩ .nil)⟩
  have OX_Malformed : MalC K mg CM f_Malformed_init := ⟨PySem.W.mg_of X G n_Malformed, ⟨⟨_, _, _, _, _, _, _, _, _, _, _, _, _, _, _, x_Malformed, r_Malformed⟩, sa_Malformed, ec_Malformed, tc_Malformed, kc_Malformed⟩, na_Malformed, ii_Malformed, ti_Malformed⟩
  have XM : XfC K CM := ⟨ga_Malformed, gg_Malformed, ec_Malformed, hd_Malformed⟩
  refine ⟨PySem.W.fnOf "law" "law" (defArgs s_law) (defBody s_law) (defScope s_law) .none kV_law dc_law pm_law an_law cd_law ct_law, fun s v => .of_eq rfl, fun base _ _ => ?_⟩
  have G_is_world := ok_is_world (P := P) (w := w) (mg := mg) (base := base) (F := F_is_world) (m_PRIMES := m_PRIMES) (tP := tP)
  have G_law_plain := ok_plain (P := P) (w := w) (mg := mg) (base := base) (F := F_law_plain)
  have G_law_next := ok_next (P := P) (w := w) (mg := mg) (base := base) (F := F_law_next)
  have G_law_draws := ok_draws (P := P) (w := w) (mg := mg) (base := base) (F := F_law_draws) (z_range := z_range) (z_int := z_int) (G_law_plain := G_law_plain) (g_law_plain := g_law_plain) (k_law_plain := k_law_plain) (b_law_plain := b_law_plain)
  have G_check_world := ok_check_world (P := P) (w := w) (mg := mg) (base := base) (F := F_check_world) (T := E_NotWorld) (G_is_world := G_is_world) (g_is_world := g_is_world) (k_is_world := k_is_world) (b_is_world := b_is_world)
  have G_is_number := ok_is_number (P := P) (w := w) (mg := mg) (base := base) (F := F_is_number) (m_gcd := m_gcd) (G_check_world := G_check_world) (g_check_world := g_check_world) (k_check_world := k_check_world) (b_check_world := b_check_world)
  have G_check_number := ok_check_number (P := P) (w := w) (mg := mg) (base := base) (F := F_check_number) (T := E_NotNumber) (G_is_number := G_is_number) (g_is_number := g_is_number) (k_is_number := k_is_number) (b_is_number := b_is_number)
  have G_lowest_ := ok_lowest (P := P) (w := w) (mg := mg) (base := base) (F := F_lowest_) (m_gcd := m_gcd)
  have G_inverse_ := ok_inverse (P := P) (w := w) (mg := mg) (base := base) (F := F_inverse_)
  have G_number := ok_number (P := P) (w := w) (mg := mg) (base := base) (F := F_number) (T := E_BadNumber) (G_check_world := G_check_world) (g_check_world := g_check_world) (k_check_world := k_check_world) (b_check_world := b_check_world) (G_inverse_ := G_inverse_) (g_inverse_ := g_inverse_) (k_inverse_ := k_inverse_) (b_inverse_ := b_inverse_) (G_lowest_ := G_lowest_) (g_lowest_ := g_lowest_) (k_lowest_ := k_lowest_) (b_lowest_ := b_lowest_)
  have G_loop_worth := ok_loop_worth (P := P) (w := w) (mg := mg) (base := base) (F := F_loop_worth) (G_check_world := G_check_world) (g_check_world := g_check_world) (k_check_world := k_check_world) (b_check_world := b_check_world)
  have G_law_lowest := ok_law_lowest (P := P) (w := w) (mg := mg) (base := base) (F := F_law_lowest) (z_range := z_range) (z_int := z_int) (z_abs := z_abs)
  have G_law_world := ok_law_world (P := P) (w := w) (mg := mg) (base := base) (F := F_law_world) (z_int := z_int) (G_law_next := G_law_next) (g_law_next := g_law_next) (k_law_next := k_law_next) (b_law_next := b_law_next)
  have G_law_number := ok_law_number (P := P) (w := w) (mg := mg) (base := base) (F := F_law_number) (z_int := z_int) (G_law_next := G_law_next) (g_law_next := g_law_next) (k_law_next := k_law_next) (b_law_next := b_law_next) (G_law_lowest := G_law_lowest) (g_law_lowest := g_law_lowest) (k_law_lowest := k_law_lowest) (b_law_lowest := b_law_lowest)
  have G_check_two_ := ok_check_two (P := P) (w := w) (mg := mg) (base := base) (F := F_check_two_) (G_check_number := G_check_number) (g_check_number := g_check_number) (k_check_number := k_check_number) (b_check_number := b_check_number)
  have G_plus := ok_plus (P := P) (w := w) (mg := mg) (base := base) (F := F_plus) (G_check_two_ := G_check_two_) (g_check_two_ := g_check_two_) (k_check_two_ := k_check_two_) (b_check_two_ := b_check_two_) (G_number := G_number) (g_number := g_number) (k_number := k_number) (b_number := b_number)
  have G_minus := ok_minus (P := P) (w := w) (mg := mg) (base := base) (F := F_minus) (G_check_two_ := G_check_two_) (g_check_two_ := g_check_two_) (k_check_two_ := k_check_two_) (b_check_two_ := b_check_two_) (G_number := G_number) (g_number := g_number) (k_number := k_number) (b_number := b_number)
  have G_times := ok_times (P := P) (w := w) (mg := mg) (base := base) (F := F_times) (G_check_two_ := G_check_two_) (g_check_two_ := g_check_two_) (k_check_two_ := k_check_two_) (b_check_two_ := b_check_two_) (G_number := G_number) (g_number := g_number) (k_number := k_number) (b_number := b_number)
  have G_over := ok_over (P := P) (w := w) (mg := mg) (base := base) (F := F_over) (G_check_two_ := G_check_two_) (g_check_two_ := g_check_two_) (k_check_two_ := k_check_two_) (b_check_two_ := b_check_two_) (G_number := G_number) (g_number := g_number) (k_number := k_number) (b_number := b_number)
  have G_power := ok_power (P := P) (w := w) (mg := mg) (base := base) (F := F_power) (T := E_BadNumber) (z_range := z_range) (m_MOST_POWER := m_MOST_POWER) (m_ONE := m_ONE) (tO := tO) (G_check_number := G_check_number) (g_check_number := g_check_number) (k_check_number := k_check_number) (b_check_number := b_check_number) (G_times := G_times) (g_times := g_times) (k_times := k_times) (b_times := b_times)
  have G_integer_text_ := ok_integer_text_ (P := P) (w := w) (mg := mg) (base := base) (F := F_integer_text_) (z_abs := z_abs) (z_str := z_str) (z_divmod := z_divmod) (m_CHUNK := m_CHUNK) (m_CHUNK_FIGURES := m_CHUNK_FIGURES)
  have G_number_text := ok_number_text (P := P) (w := w) (mg := mg) (base := base) (F := F_number_text) (G_check_number := G_check_number) (g_check_number := g_check_number) (k_check_number := k_check_number) (b_check_number := b_check_number) (G_integer_text_ := G_integer_text_) (g_integer_text_ := g_integer_text_) (k_integer_text_ := k_integer_text_) (b_integer_text_ := b_integer_text_)
  have G_Malformed_init := ok_Malformed_init (P := P) (w := w) (mg := mg) (base := base) (F := F_Malformed_init)
  have G_figure_count_ := ok_figure_count_ (P := P) (w := w) (mg := mg) (base := base) (F := F_figure_count_) (z_len := z_len)
  have G_is_integer_ := ok_is_integer_ (P := P) (w := w) (mg := mg) (base := base) (F := F_is_integer_)
  have G_integer_of_ := ok_integer_of_ (P := P) (w := w) (mg := mg) (base := base) (F := F_integer_of_) (z_len := z_len) (z_int := z_int) (z_range := z_range) (m_CHUNK_FIGURES := m_CHUNK_FIGURES) (m_CHUNK := m_CHUNK)
  have G_read_any_number := ok_read_any_number (P := P) (w := w) (mg := mg) (base := base) (F := F_read_any_number) (z_len := z_len) (z_all := z_all) (OX_Malformed := OX_Malformed) (G_Malformed_init := G_Malformed_init) (b_Malformed_init := b_Malformed_init) (G_is_number := G_is_number) (g_is_number := g_is_number) (k_is_number := k_is_number) (b_is_number := b_is_number) (G_number_text := G_number_text) (g_number_text := g_number_text) (k_number_text := k_number_text) (b_number_text := b_number_text) (G_is_integer_ := G_is_integer_) (g_is_integer_ := g_is_integer_) (k_is_integer_ := k_is_integer_) (b_is_integer_ := b_is_integer_) (G_integer_of_ := G_integer_of_) (g_integer_of_ := g_integer_of_) (k_integer_of_ := k_integer_of_) (b_integer_of_ := b_integer_of_)
  have G_read_number := ok_read_number (P := P) (w := w) (mg := mg) (base := base) (F := F_read_number) (z_all := z_all) (m_MOST_FIGURES := m_MOST_FIGURES) (OX_Malformed := OX_Malformed) (G_Malformed_init := G_Malformed_init) (b_Malformed_init := b_Malformed_init) (G_check_world := G_check_world) (g_check_world := g_check_world) (k_check_world := k_check_world) (b_check_world := b_check_world) (G_figure_count_ := G_figure_count_) (g_figure_count_ := g_figure_count_) (k_figure_count_ := k_figure_count_) (b_figure_count_ := b_figure_count_) (G_read_any_number := G_read_any_number) (g_read_any_number := g_read_any_number) (k_read_any_number := k_read_any_number) (b_read_any_number := b_read_any_number)
  exact ok_law (P := P) (w := w) (mg := mg) (base := base) (F := F_law) (z_int := z_int) (z_str := z_str) (G_law_draws := G_law_draws) (g_law_draws := g_law_draws) (k_law_draws := k_law_draws) (b_law_draws := b_law_draws) (G_law_next := G_law_next) (g_law_next := g_law_next) (k_law_next := k_law_next) (b_law_next := b_law_next) (G_law_world := G_law_world) (g_law_world := g_law_world) (k_law_world := k_law_world) (b_law_world := b_law_world) (G_law_number := G_law_number) (g_law_number := g_law_number) (k_law_number := k_law_number) (b_law_number := b_law_number) (G_plus := G_plus) (g_plus := g_plus) (k_plus := k_plus) (b_plus := b_plus) (G_minus := G_minus) (g_minus := g_minus) (k_minus := k_minus) (b_minus := b_minus) (G_times := G_times) (g_times := g_times) (k_times := k_times) (b_times := b_times) (G_over := G_over) (g_over := g_over) (k_over := k_over) (b_over := b_over) (G_power := G_power) (g_power := g_power) (k_power := k_power) (b_power := b_power) (G_number_text := G_number_text) (g_number_text := g_number_text) (k_number_text := k_number_text) (b_number_text := b_number_text) (G_read_number := (readY_of G_read_number)) (g_read_number := g_read_number) (k_read_number := k_read_number) (b_read_number := b_read_number) (G_number := G_number) (g_number := g_number) (k_number := k_number) (b_number := b_number) (G_loop_worth := G_loop_worth) (g_loop_worth := g_loop_worth) (k_loop_worth := k_loop_worth) (b_loop_worth := b_loop_worth) (b_number2 := b_number2)
end T
open PySem PySem.W PyProof.Rows
set_option maxHeartbeats 0 in
theorem PySem.Challenge.cw_threadworth_k02_whole_numbers_reckon_rig_holds : PySem.Challenge.rw_threadworth_k02_whole_numbers_reckon_rig.Holds := by
  w_on; o_law; k_head; (case hw => w_witness2)
  k_fill
  refine L2.walk_ofG (l := PySem.Challenge.rw_threadworth_k02_whole_numbers_reckon_rig) (n := 63) (k := 9) (x := "script") (sp := fun w => T.spLaw _) rfl (by decide) rfl ⟨rfl, by decide, by decide⟩ (fun w h Y => PySem.W.kIn_of Y) ?F (fun _ _ a ns hl hS => ⟨a, ns, rfl, hS, hl, fun _ => rfl⟩)
  case F =>
    intro w mg fa h KX G hmg
    refine' T.all_mk KX G hmg ?a_is_world ?l_is_world ?c_is_world ?k_is_world ?a_law_plain ?l_law_plain ?c_law_plain ?k_law_plain ?a_law_next ?l_law_next ?c_law_next ?k_law_next ?a_law_draws ?l_law_draws ?c_law_draws ?k_law_draws ?a_check_world ?l_check_world ?c_check_world ?k_check_world ?a_is_number ?l_is_number ?c_is_number ?k_is_number ?a_check_number ?l_check_number ?c_check_number ?k_check_number ?a_lowest_ ?l_lowest_ ?c_lowest_ ?k_lowest_ ?a_inverse_ ?l_inverse_ ?c_inverse_ ?k_inverse_ ?a_number ?l_number ?c_number ?k_number ?a_loop_worth ?l_loop_worth ?c_loop_worth ?k_loop_worth ?a_law_lowest ?l_law_lowest ?c_law_lowest ?k_law_lowest ?a_law_world ?l_law_world ?c_law_world ?k_law_world ?a_law_number ?l_law_number ?c_law_number ?k_law_number ?a_check_two_ ?l_check_two_ ?c_check_two_ ?k_check_two_ ?a_plus ?l_plus ?c_plus ?k_plus ?a_minus ?l_minus ?c_minus ?k_minus ?a_times ?l_times ?c_times ?k_times ?a_over ?l_over ?c_over ?k_over ?a_power ?l_power ?c_power ?k_power ?a_integer_text_ ?l_integer_text_ ?c_integer_text_ ?k_integer_text_ ?a_number_text ?l_number_text ?c_number_text ?k_number_text ?l_Malformed_init ?c_Malformed_init ?k_Malformed_init ?a_figure_count_ ?l_figure_count_ ?c_figure_count_ ?k_figure_count_ ?a_is_integer_ ?l_is_integer_ ?c_is_integer_ ?k_is_integer_ ?a_integer_of_ ?l_integer_of_ ?c_integer_of_ ?k_integer_of_ ?a_read_any_number ?l_read_any_number ?c_read_any_number ?k_read_any_number ?a_read_number ?l_read_number ?c_read_number ?k_read_number ?a_law ?l_law ?c_law ?k_law ?zn_int ?zn_range ?zn_abs ?zn_str ?zn_divmod ?zn_len ?zn_all ?n_gcd ?n_PRIMES ?l_PRIMES ?n_NotWorld ?x_NotWorld ?kc_NotWorld ?bc_NotWorld ?tc_NotWorld ?n_NotNumber ?x_NotNumber ?kc_NotNumber ?bc_NotNumber ?tc_NotNumber ?n_BadNumber ?x_BadNumber ?kc_BadNumber ?bc_BadNumber ?tc_BadNumber ?ld_number ?n_MOST_POWER ?n_MOST_FIGURES ?n_CHUNK_FIGURES ?n_CHUNK ?n_ONE ?l_ONE ?n_Malformed ?x_Malformed ?r_Malformed ?sa_Malformed ?ga_Malformed ?gg_Malformed ?na_Malformed ?ii_Malformed ?kc_Malformed ?ec_Malformed ?tc_Malformed ?hd_Malformed ?ti_Malformed ?ss_Malformed
    (case a_is_world => k_is); (case l_is_world => k_is); (case c_is_world => k_is); (case k_is_world => k_is); (case a_law_plain => k_is); (case l_law_plain => k_is); (case c_law_plain => k_is); (case k_law_plain => k_is)
    (case a_law_next => k_is); (case l_law_next => k_is); (case c_law_next => k_is); (case k_law_next => k_is); (case a_law_draws => k_is); (case l_law_draws => k_is); (case c_law_draws => k_is); (case k_law_draws => k_is)
    (case a_check_world => k_is); (case l_check_world => k_is); (case c_check_world => k_is); (case k_check_world => k_is); (case a_is_number => k_is); (case l_is_number => k_is); (case c_is_number => k_is); (case k_is_number => k_is)
    (case a_check_number => k_is); (case l_check_number => k_is); (case c_check_number => k_is); (case k_check_number => k_is); (case a_lowest_ => k_is); (case l_lowest_ => k_is); (case c_lowest_ => k_is); (case k_lowest_ => k_is)
    (case a_inverse_ => k_is); (case l_inverse_ => k_is); (case c_inverse_ => k_is); (case k_inverse_ => k_is); (case a_number => k_is); (case l_number => k_is); (case c_number => k_is); (case k_number => k_is)
    (case a_loop_worth => k_is); (case l_loop_worth => k_is); (case c_loop_worth => k_is); (case k_loop_worth => k_is); (case a_law_lowest => k_is); (case l_law_lowest => k_is); (case c_law_lowest => k_is); (case k_law_lowest => k_is)
    (case a_law_world => k_is); (case l_law_world => k_is); (case c_law_world => k_is); (case k_law_world => k_is); (case a_law_number => k_is); (case l_law_number => k_is); (case c_law_number => k_is); (case k_law_number => k_is)
    (case a_check_two_ => k_is); (case l_check_two_ => k_is); (case c_check_two_ => k_is); (case k_check_two_ => k_is); (case a_plus => k_is); (case l_plus => k_is); (case c_plus => k_is); (case k_plus => k_is)
    (case a_minus => k_is); (case l_minus => k_is); (case c_minus => k_is); (case k_minus => k_is); (case a_times => k_is); (case l_times => k_is); (case c_times => k_is); (case k_times => k_is)
    (case a_over => k_is); (case l_over => k_is); (case c_over => k_is); (case k_over => k_is); (case a_power => k_is); (case l_power => k_is); (case c_power => k_is); (case k_power => k_is)
    (case a_integer_text_ => k_is); (case l_integer_text_ => k_is); (case c_integer_text_ => k_is); (case k_integer_text_ => k_is); (case a_number_text => k_is); (case l_number_text => k_is); (case c_number_text => k_is); (case k_number_text => k_is)
    (case a_figure_count_ => k_is); (case l_figure_count_ => k_is); (case c_figure_count_ => k_is); (case k_figure_count_ => k_is); (case a_is_integer_ => k_is); (case l_is_integer_ => k_is); (case c_is_integer_ => k_is); (case k_is_integer_ => k_is)
    (case a_integer_of_ => k_is); (case l_integer_of_ => k_is); (case c_integer_of_ => k_is); (case k_integer_of_ => k_is); (case a_read_any_number => k_is); (case l_read_any_number => k_is); (case c_read_any_number => k_is); (case k_read_any_number => k_is)
    (case a_read_number => k_is); (case l_read_number => k_is); (case c_read_number => k_is); (case k_read_number => k_is); (case a_law => k_is); (case l_law => k_is); (case c_law => k_is); (case k_law => k_is)
    (case zn_int => k_is); (case zn_range => k_is); (case zn_abs => k_is); (case zn_str => k_is); (case zn_divmod => k_is); (case zn_len => k_is); (case zn_all => k_is); (case n_gcd => k_is)
    (case n_PRIMES => k_is); (case l_PRIMES => k_is); (case n_NotWorld => k_is); (case x_NotWorld => k_exc); (case kc_NotWorld => k_is); (case bc_NotWorld => k_is); (case tc_NotWorld => k_is); (case n_NotNumber => k_is)
    (case x_NotNumber => k_exc); (case kc_NotNumber => k_is); (case bc_NotNumber => k_is); (case tc_NotNumber => k_is); (case n_BadNumber => k_is); (case x_BadNumber => k_exc); (case kc_BadNumber => k_is); (case bc_BadNumber => k_is)
    (case tc_BadNumber => k_is); (case ld_number => k_is); (case n_MOST_POWER => k_is); (case n_MOST_FIGURES => k_is); (case n_CHUNK_FIGURES => k_is); (case n_CHUNK => k_is); (case n_ONE => k_is); (case l_ONE => k_is)
    (case n_Malformed => k_is); (case x_Malformed => k_is); (case r_Malformed => rfl); (case sa_Malformed => k_is); (case ga_Malformed => k_is); (case gg_Malformed => k_is); (case na_Malformed => k_is); (case ii_Malformed => k_is)
    (case kc_Malformed => k_is); (case ec_Malformed => k_is); (case tc_Malformed => k_is); (case hd_Malformed => k_is); (case ti_Malformed => k_is); (case ss_Malformed => first | rfl | k_is); (case l_Malformed_init => k_is); (case c_Malformed_init => k_is)
    (case k_Malformed_init => k_is)
