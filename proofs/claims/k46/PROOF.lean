import PyProof.Rows.All
import Wide.All
import OpenK.AllK
import Wide.FinOn
import HandS.ForMost
import HandS.Star
import HandS.Property
import HandS.ClsMeth
import HandS.IsInst
import HandS.Wide
import HandS.Walk
import HandS.TupAny
import KE.GoesEnum
import HandS.Text
import HandS.StrMore
import KE.GoesEnumKw
import HandS.SortKw
import HandS.Codes
import HandS.Style
import HandS.Flt
import HandS.Conv
import HandS.TupMul
import KE.DataFind
import HandS.Deep
import HandS.ExcIs
import HandS.Flow
import HandS.List
import HandS.WordsList
import HandS.WordsExc
import HandS.FStr
import HandS.ExcValue
import HandS.ExcSuper
import HandS.ExcField
import HandS.MakeKwOnly
import KE.KExcSuper
import KE.KSuper
import HandS.Zip
import HandS.SetBool
import HandS.Strs
import KE.KRevSl
import HandS.GenList
import HandS.Lambda
import HandS.EndTab
import HandS.Defaults
import PySem.Challenge.RW_chaircarry_k46_whole_daybooks_for_all_st
set_option Elab.async false
set_option linter.all false
set_option maxRecDepth 100000
set_option maxHeartbeats 5000000
/-! Own rules: enumerate over a tuple, list.extend by a tuple, C( *xs), C() by a positional promise. -/
namespace Cc
open PySem PySem.Spec PyProof.Rows L2
/-! ### list.extend(tuple) -/
theorem extend_tup {prog : Program} {w : World} {A : Around} {Ez : Value → Shared → Prop} {s : Shared} {S it : Addr} {o : Obj} {xs items : Array Value} {n c₀ : Nat} {Qz : Fin → Shared → Prop}
    (kS : s.heap.get? S = some { cls := .type "list", data := .seq xs c₀ }) (ko : s.heap.get? it = some o) (kc : o.cls = .type "tuple") (kd : o.data = .seq items n)
    (kne : S ≠ it) (ksz : xs.size + items.size ≤ sizeLine)
    (hQ : Qz (.done (.ret .none)) { s with heap := s.heap.update S (Obj.mapSeq (· ++ items)) }) :
    wpAny (model prog w) A (Builtin.List.listExtendWith (.ref S) (.ref it) .none) Qz Ez s := by
  show wpAny _ A (Builtin.List.listExtendWith _ _ _) Qz Ez s; unfold Builtin.List.listExtendWith
  refine wpAny_bind (wpAny_typeOf ⟨o, ko, kc⟩ ?_)
  have g1 : (Builtin.List.listSameRef (.ref S) (.ref it) || Value.type "tuple" == Value.type "list" || Value.type "tuple" == Value.type "tuple") = true := by simp
  simp only [g1, if_true]
  refine wpAny_bind ?_
  unfold Builtin.List.listItems
  refine wpAny_bind (wpAny_seqItems ko kd (wpAny_pure ?_))
  refine wpAny_bind ?_
  refine wpAny_bind (wpAny_seqItems kS rfl (wpAny_pure ?_))
  have hdoor : (!xs.isEmpty && Builtin.List.listTooLong (xs.size + items.size)) = false := by rw [notLongL ksz, Bool.and_false]
  simp only [hdoor, Bool.false_eq_true, if_false]
  show wpAny _ A (updateSeq S (· ++ items) >>= fun _ => ret Value.none) _ _ s
  refine wpAny_bind (wpAny_updateSeq kS rfl ?_)
  exact wpAny_pure hQ
section
variable {X : Cx}
def rExtendT (K : PySem.W.Frag) : V → List V → Hp → VK → Prop := fun x vs Hh Qz => ∃ l b xs zs, x = .ref l ∧ vs = [.ref b] ∧ Hh l = some (.lst xs) ∧ SqT K Hh b zs ∧ xs.length + zs.length ≤ sizeLine ∧ Qz .non (upd Hh l (.lst (xs ++ zs)))
theorem mt_extendT : MtM X "list.extend" (rExtendT X.K) := by
  intro pz s sg Hh x vs v us Qz J rx rw1 h
  obtain ⟨l, b, xs, zs, rfl, rfl, kH, kB, kz, qz⟩ := h
  cases rx
  obtain ⟨u, rfl, ru⟩ := rw1.one
  cases ru
  obtain ⟨z, vz, n, r, kl, e⟩ := J.lstM kH
  obtain ⟨vz2, r2, ⟨o, ko, kc, n2, kd⟩, kz2⟩ := J.tuple kB
  have hl2 := r2.length
  have kne : l ≠ b := fun qz => by
    subst qz
    rw [e] at ko
    cases ko
    have hc' : Value.type "list" = Value.type "tuple" := kc
    injection hc' with g1
    exact absurd g1 (by decide)
  have ksz : vz.toArray.size + vz2.toArray.size ≤ sizeLine := by rw [List.size_toArray, List.size_toArray]; omega
  refine call_meets (S := fun _ R s' => s' = s ∧ R (.ok (.ret Value.none)) { s with heap := s.heap.update l (Obj.mapSeq fun x => x ++ vz2.toArray) }) F.slot_list_extend ⟨_, e, rfl⟩ F.entry_list_extend (F.args_list_extend_2 _ _) ?_ ⟨rfl, ?_⟩
  · refine .of_wp fun prog w A R s' h => ?_
    obtain ⟨ks, h⟩ := h
    subst ks
    exact extend_tup e ko kc kd kne ksz ⟨_, rfl, h⟩
  · refine ⟨.non, _, J.lset (its' := vz ++ vz2) kH e (by simp) (r.append r2) ?_, rfl, qz⟩
    rw [List.length_append]
    omega
end
/-! ### enumerate(tuple) -/
/-- the enumerate object over the iterator at i -/
abbrev eOb (i : Addr) : Obj := { cls := .type "enumerate", data := .fields #[.none, .bool false, .ref i, rawInt 0, .none, .none] }
theorem meets_enum1 {v : Value} {o : Obj} {Hh : Heap → Prop} (Bz : Begins v o Hh) :
    Meets (Builtin.«enumerate.__new__» ⟨[.type "enumerate", v], []⟩) (fun _ R s => Hh s.heap ∧
      R (.ok (.ret (.ref (s.heap.push o).objs.size))) { s with heap := (s.heap.push o).push (eOb s.heap.objs.size) }) :=
  .of_wp fun pp ww A R s h => by
    obtain ⟨hp, g, d, tk, os⟩ := s; obtain ⟨g1, h⟩ := h
    have hsub := sub_enumerate
    have qz1 : ∀ {A' : Around} {Ez : Value → Shared → Prop} {Qz : Value → Shared → Prop}, Qz (.ref hp.objs.size) ⟨hp.push o, g, d, tk, os⟩ → wpAny (model pp ww) A' (pyIter v) Qz Ez ⟨hp, g, d, tk, os⟩ :=
      fun qz => Bz.iter pp ww _ _ ⟨hp, g, d, tk, os⟩ _ g1 qz
    wp_walk using qz1
    refine wpAny_stack_any fun zs => wpAny_pure ?_
    split
    · rename_i cz _ _ _ _ _
      cases (cz == Value.type "enumerate")
      · wp_walk using qz1
        exact ⟨_, rfl, h⟩
      · wp_walk using qz1
        exact ⟨_, rfl, h⟩
    · wp_walk using qz1
      exact ⟨_, rfl, h⟩
section
variable {prog : Program} {w : World} {A : Around} {Ez : Value → Shared → Prop} {s : Shared}
theorem call_enum1 {v : Value} {o : Obj} {Hh : Heap → Prop} {Qz : Value → Shared → Prop} (Bz : Begins v o Hh) (g1 : Hh s.heap)
    (h : ∀ h', IsEnum h' (s.heap.objs.size + 1) s.heap.objs.size 0 .none → h'.get? s.heap.objs.size = some o → h'.objs.size = s.heap.objs.size + 2 →
      (∀ b o, s.heap.get? b = some o → h'.get? b = some o) → Qz (.ref (s.heap.objs.size + 1)) { s with heap := h' }) :
    wpAny (model prog w) A (call (.type "enumerate") [v]) Qz Ez s := by
  have kz := Heap.size_push s.heap o
  have ke : IsEnum ((s.heap.push o).push (eOb s.heap.objs.size)) (s.heap.objs.size + 1) s.heap.objs.size 0 .none := kz ▸ Heap.get?_push_size (s.heap.push o) (o := eOb s.heap.objs.size) rfl
  refine callType_new F.called_enumerate (by decide)
    (F.typeCall_enumerate_1 _) (F.newCall_enumerate_1 _) (fun z => F.args_object_init_2 z _)
    F.entry_enumerate_new (meets_enum1 Bz) ⟨g1, ?_⟩
  show _ ∧ _
  rw [kz]
  refine ⟨⟨_, ke, rfl⟩, h _ ke (Heap.get?_push_of_some _ (Heap.get?_push_size _ Bz.free)) (by rw [Heap.size_push, kz]) fun b o x => Heap.get?_push_of_some _ (Heap.get?_push_of_some _ x)⟩
end
section
variable {prog : Program} {w : World} {A : Around} {Ez : Value → Shared → Prop} {s : Shared}
theorem pyNext_enum_end {e it t : Addr} {i : Nat} {items : Array Value} {c : Int} {olz : Value} {Qz : Option Value → Shared → Prop} (kx : items[i]? = none)
    (kh : A.in1.handled = none) (ke : IsEnum s.heap e it c olz) (kit : s.heap.IsTupleIter it t i) (ht : s.heap.IsTuple t items)
    (hQ : ∀ h', Heap.ExtBut it s.heap h' → Qz none { s with heap := h' }) : wpAny (model prog w) A (pyNext (.ref e)) Qz Ez s := by
  have kT : s.TypeIs (.ref e) "enumerate" := ⟨_, ke, rfl⟩
  unfold pyNext
  refine wpAny_bind (wpAny_attempt (wpAny_callSpecial?_slot (name := Str.ofString "__next__") kT F.slot_enumerate_next
    (wpAny_call_entry F.slot_enumerate_next kT F.entry_enumerate_next ?_ (F.args_enumerate_next_1 _))))
  show wpAny _ _ (field (Value.ref e) 2 >>= _) _ _ s
  refine wpAny_bind (wpAny_field ke rfl (x := .ref it) rfl ?_)
  refine wpAny_bind (wpAny_nextOf_tuple_end kh kit ht kx fun h' x ke' hx' => ?_)
  obtain ⟨o, ko, kc⟩ := hx'
  refine wpAny_bind (wpAny_isInstance (T := "StopIteration") (b := true) ⟨o, ko, kc⟩ isSubtype_stop ?_)
  exact wpAny_pure (hQ _ ke')
end
/-- the tuple at a, each item in a nw pair -/
def IteT (K : PySem.W.Frag) (a : Addr) : It :=
  ⟨fun i Hh => ∃ (xs : List V) (x : V), SqT K Hh a xs ∧ xs[i]? = some x, fun i Hh v H' => ∃ T x, v = .ref T ∧ Hh T = none ∧ H' = upd Hh T (.tup [.int (i : Nat), x]) ∧ ∀ xs, SqT K Hh a xs → xs[i]? = some x, fun i Hh => ∃ xs : List V, SqT K Hh a xs ∧ xs.length ≤ i⟩
theorem turn_enumT {P : Program} {w : World} {K : PySem.W.Frag} {elts : List Expr} {kk : Nat} {tpos : Pos} (a e it : Addr) :
    Turn P w K (.Tuple elts kk tpos) (IteT K a) [e, it] e (fun i h => (∃ olz, IsEnum h e it ((i : Nat) : Int) olz) ∧ h.IsTupleIter it a i ∧ e ≠ it ∧ a ≠ e ∧ a ≠ it) where
  mem := by simp
  obj := fun i h st b kb => by
    obtain ⟨⟨olz, ke⟩, ⟨o, ko, kc, kd⟩, _⟩ := st
    have ee : b = e ∨ b = it := by simpa using kb
    rcases ee with z | z
    · rw [z]; exact ⟨_, ke, fun v qz => nomatch qz⟩
    · rw [z]; exact ⟨o, ko, fun v qz => by rw [kd] at qz; cases qz⟩
  keep := fun i h h' st k => let ⟨⟨olz, ke⟩, hi, kne⟩ := st; ⟨⟨olz, k e (by simp) _ ke⟩, hi.at fun o qz => k it (by simp) o qz, kne⟩
  item := by
    intro X kP kw kK kc i pz s sg Hh Ez J kf st kg
    subst kP kw kK
    obtain ⟨⟨olz, ke⟩, kit, kne, kae, kai⟩ := st
    obtain ⟨xs, x, kq, kx⟩ := kg
    obtain ⟨vz, rw1, p, kz⟩ := J.tuple kq
    have kel : e < s.heap.objs.size := Heap.lt_size ke
    have kil : it < s.heap.objs.size := by obtain ⟨_, qz, _⟩ := kit; exact Heap.lt_size qz
    have hix : i < vz.toArray.size := by
      have := rw1.length
      have h2 := (List.getElem?_eq_some_iff.mp kx).1
      rw [List.size_toArray]
      omega
    have Dz := Draws.tuple (prog := X.prog) (w := X.w) (A := X.A.in1) (show X.A.in1.handled = none from J.ok.hd kc) it a kai vz.toArray
    refine wpAny_pyNext_enum_itemD Dz ke ⟨kit, p⟩ hix kne (by simp [kne, Ne.symm kae]) fun u h' tk ku ko hit' kT ksz kk => ?_
    have ru : RelV x u := by
      obtain ⟨u2, hu2, r2⟩ := rw1.get kx
      have e3 : u2 = u := by
        have ku' : vz[i]? = some u := by simpa using ku
        exact Option.some.inj (hu2.symm.trans ku')
      exact e3 ▸ r2
    refine ⟨_, rfl, wpAny_letOwnedTupleGo_enum (s := { s with heap := h', toks := tk + 1 }) ko fun h'' ke' sbz => ?_⟩
    have kT2 : h''.get? s.heap.objs.size = some { cls := .type "tuple", data := .seq #[.int i tk, u] } := (sbz.2 _ (Nat.ne_of_gt kel)).trans kT
    have nw : ObjOk X.prog X.w (upd Hh s.heap.objs.size (.tup [.int (i : Nat), x])) h'' s.heap.objs.size (.tup [.int (i : Nat), x]) :=
      ⟨by show 2 ≤ sizeLine; decide, [.int i tk, u], .cons ⟨_, rfl⟩ (.cons ru .nil), ⟨_, kT2, rfl, _, rfl⟩⟩
    have J1 : Inv X pz sg (upd Hh s.heap.objs.size (.tup [.int (i : Nat), x])) { s with heap := h'', toks := tk + 1 } :=
      J.turnedNew (ch := [e, it]) (fun b ob kb qz => (sbz.2 b (fun z => kb (by simp [z]))).trans (kk b ob (fun z => kb (by simp [z])) (fun z => kb (by simp [z])) qz)) kf (Nat.le_refl _) nw
    refine ⟨.ref s.heap.objs.size, _, J1, rfl, ⟨_, x, rfl, J.hok.fresh (Nat.le_refl _), rfl, fun ys hy => by rw [J.tuple_inj hy kq]; exact kx⟩, ⟨⟨u, ?_⟩, hit'.1.at fun o qz => (sbz.2 it (Ne.symm kne)).trans qz, kne, kae, kai⟩, fun b kb => ?_⟩
    · have e1 : (((i + 1 : Nat)) : Int) = (i : Int) + 1 := by omega
      rw [e1]; exact ke'
    · have kb' : b < s.heap.objs.size := by
        have ee : b = e ∨ b = it := by simpa using kb
        rcases ee with z | z
        · rw [z]; exact kel
        · rw [z]; exact kil
      rw [upd_ne (Nat.ne_of_lt kb')]
      exact (kf b kb).1
  done := by
    intro X kP kw kK kc i pz s sg Hh Ez J kf st kg
    subst kP kw kK
    obtain ⟨⟨olz, ke⟩, kit, kne, kae, kai⟩ := st
    obtain ⟨xs, kq, kx⟩ := kg
    obtain ⟨vz, rw1, p, kz⟩ := J.tuple kq
    obtain ⟨f0, f1, f2, f3, f4, f5⟩ := kf it (by simp)
    have hl := rw1.length
    exact pyNext_enum_end (by simp; omega) (show X.A.in1.handled = none from J.ok.hd kc) ke kit p fun h' eb => ⟨rfl, J.turned (t' := s.toks) (fun b o kb qz => eb b o kb qz) f0 f1 f3 f4 f5⟩
  self := fun A i s Qz Ez st h => let ⟨⟨_, ke⟩, _⟩ := st; wpAny_pyIter_enum ke h
def iEnumT (K : PySem.W.Frag) (ta : TA) : TI := fun sg Hh R => ta sg Hh fun vs H1 => ∃ a xs, vs = [.ref a] ∧ SqT K H1 a xs ∧ R (IteT K a) H1
theorem pi_enumT {X : Cx} {e : Expr} {ta : TA} {p pos tpos : Pos} {elts : List Expr} {kk : Nat} (kg : Gl X "enumerate") (km : X.mg "enumerate" = none) (ka : PA X [e] ta) (ks : starEach [e] X.env = [(false, eval e X.env)] := by rfl) :
    PI X (.Tuple elts kk tpos) (.Call (.Name "enumerate" p) [e] [] pos) (iEnumT X.K ta) := by
  refine ⟨fun pz s sg Hh R J h => ?_⟩
  refine Call_ (ld_blt J kg km boot_enumerate (PyProof.Rows.callWith_type1 (thn (ka.run pos pz s sg Hh _ J h) fun us s1 ⟨vs, H1, J1, r1, qz1⟩ => ?_) ks rfl))
  obtain ⟨a, xs, ex, kq, qz⟩ := qz1
  subst ex
  cases r1 with
  | cons r rr =>
    cases rr
    cases r
    obtain ⟨vz, rw1, p', kz⟩ := J1.tuple kq
    have hal : a < s1.heap.objs.size := p'.lt
    refine call_enum1 (begins_tuple a vz.toArray) p' fun h' ke kit ksz kk => wpAny_pyIter_enum ke ?_
    have J2 : Inv X pz sg H1 { s1 with heap := h' } := J1.kept (t' := s1.toks) kk
    refine ⟨s1.heap.objs.size + 1, [s1.heap.objs.size + 1, s1.heap.objs.size], _, _, H1, rfl, J2, turn_enumT a (s1.heap.objs.size + 1) s1.heap.objs.size, ⟨⟨.none, ke⟩, ⟨_, kit, rfl, rfl⟩, Nat.succ_ne_self _, Nat.ne_of_lt (Nat.lt_succ_of_lt hal), Nat.ne_of_lt hal⟩, fun b kb => ?_, qz⟩
    have ee : b = s1.heap.objs.size + 1 ∨ b = s1.heap.objs.size := by simpa using kb
    have kle : s1.heap.objs.size ≤ b := by
      rcases ee with z | z
      · subst z; exact Nat.le_succ _
      · rw [z]; exact Nat.le_refl _
    exact J1.fpOk kle (J1.hok.fresh kle)
theorem walk_enumT {K : PySem.W.Frag} {a : Addr} {xs : List V} : Walk (IteT K a) xs.length (fun Hh => SqT K Hh a xs) (YPair (fun i => some (.int (i : Nat))) (fun i => xs[i]?)) := by
  refine ⟨fun i _ hi qz => ⟨xs, xs[i], qz, by simp [hi]⟩, fun _ qz => ⟨xs, qz, Nat.le_refl _⟩, fun i Hh v H' _ qz y => ?_⟩
  obtain ⟨T, x, g1, g2, g3, g4⟩ := y
  exact ⟨T, .int (i : Nat), x, g1, g2, g3, rfl, g4 xs qz⟩
/-! ### C( *xs), C() by a positional promise -/
def tMakeS (K : PySem.W.Frag) (C : Addr) (sp : Sp) (Ez : XK) (te : TE) : TE := fun sg Hh Qz => te sg Hh fun y H1 => ∃ a xs, y = V.ref a ∧ (SqT K H1 a xs ∨ SqL K H1 a xs) ∧ ∀ x dx, H1 x = Option.none → H1 dx = Option.none → dx ≠ x →
  sp (V.ref x :: xs) (upd (upd H1 dx (.own x)) x (.ins C dx [])) (fun v H2 => v = .non ∧ Qz (.ref x) H2) Ez
section
variable {X : Cx} {CX : CXT} {k : Nat} {f C : Addr} {sp : Sp} {Ez : XK} {x : Str} {e : Expr} {te : TE} {p sp_ pos : Pos}
theorem pe_makeS (M : Mk X.K C f) (F : FnR X.prog X.w X.K X.mg X.base CX k f sp) (kr : Room (k + 1) X.A) (kg : Gl X x) (km : X.mg x = some (.ref C)) (kx : Passes CX X Ez) (ke : PE X e te) (kdb : (x == ("__debug__" : Str)) = false := by decide)
    (kst : starEach [.Starred e sp_] X.env = [(true, eval e X.env)] := by rfl) : PE X (.Call (.Name x p) [.Starred e sp_] [] pos) (tMakeS X.K C sp Ez te) := by
  refine ⟨fun pz s sg Hh Qz J h => ?_⟩
  refine wpAny_Call_Name_kw (ld_glob J kg km ?_ kdb)
  refine PySem.W.callWith_S (h₀ := X.base) J.ok.mod.kin M.kp (thn (ke.run pz s sg Hh _ J h) fun v s1 ⟨y, H1, J1, ry, a, xs, ey, kxs, qz⟩ => ?_) kst
  subst ey
  cases (show v = Value.ref a from ry)
  exact StX.star_any J1 kxs fun us s2 J2 rw1 => ⟨J2.kIn, StX.run_makeR M F kr kx J2 rw1 qz⟩
theorem pe_makeR0 (M : Mk X.K C f) (F : FnR X.prog X.w X.K X.mg X.base CX k f sp) (kr : Room (k + 1) X.A) (kg : Gl X x) (km : X.mg x = some (.ref C)) (kx : Passes CX X Ez) (kdb : (x == ("__debug__" : Str)) = false := by decide) :
    PE X (.Call (.Name x p) [] [] pos) (StX.tMakeR C sp Ez tNil) := by
  refine ⟨fun pz s sg Hh Qz J h => ?_⟩
  refine wpAny_Call_Name_kw (ld_glob J kg km ?_ kdb)
  exact PySem.W.callWith_K0 J.kIn M.kp (StX.run_makeR (us := []) M F kr kx J .nil h)
end
/-! ### f(e, ..) by a positional promise -/
section
variable {X : Cx} {CX : CXT} {k : Nat} {f : Addr} {sp : Sp} {Ez : XK} {x : Str} {e : Expr} {es : List Expr} {t : TA} {p pos : Pos}
theorem pe_callR (F : FnR X.prog X.w X.K X.mg X.base CX k f sp) (kr : Room k X.A) (kg : Gl X x) (km : X.mg x = some (.ref f)) (kk : PySem.W.keepIn X.K (.ref f) = true) (kx : Passes CX X Ez) (ka : PA X (e :: es) t) (kdb : (x == ("__debug__" : Str)) = false := by decide)
    (ke : starEach (e :: es) X.env = (false, eval e X.env) :: starEach es X.env := by rfl) (kpl : (backTo pos (starEach es X.env)).any (·.1) = false := by rfl) :
    PE X (.Call (.Name x p) (e :: es) [] pos) (fun sg Hh Qz => t sg Hh fun vs H1 => sp vs H1 Qz Ez) := by
  refine ⟨fun pz s sg Hh Qz J h => ?_⟩
  refine wpAny_Call_Name_kw (ld_glob J kg km ?_ kdb)
  refine PySem.W.callWith_K (h₀ := X.base) J.ok.mod.kin kk (thn (ka.run pos pz s sg Hh _ J h) fun us s1 ⟨vs, H1, J1, r, qz⟩ => ⟨J1.kIn, ?_⟩) ke kpl
  exact wpAny_call (run_fnR F kr kx J1 r qz)
end
/-- a def of the module as a callee: where it is, that it is kept, vz promise -/
structure Dn (P : Program) (w : World) (K : PySem.W.Frag) (mg : Str → Option Value) (base : Heap) (k : Nat) (x : Str) (f : Addr) (sp : Sp) : Prop where
  at_ : mg x = some (.ref f)
  kp : PySem.W.keepIn K (Value.ref f) = true
  ok : FnR P w K mg base CX0 k f sp
/-! ### *steps: the tuple that a call lays is locked -/
section
variable {CX : CXT} {P : Program} {w : World} {K : PySem.W.Frag} {mg : Str → Option Value} {base : Heap} {k : Nat} {f : Addr} {name qual : Str} {params : Arguments} {body : List Stmt} {scope : Scope} {dV kV doc pm cdv ct oc : Value} {an od : Option Addr} {osl : Array (Option Value)} {N ps : List Str} {sp : Sp} {pv : Str}
theorem fn_starZ (lk : K.lookup f = some ⟨oc, od, .func (PySem.W.fnOf name qual params body scope dV kV doc pm an cdv ct), osl⟩) (hcd : PySem.W.codeIn K cdv qual = true) (S : FnScope N (ps ++ [pv]) scope) (hCX : StX.CXUp CX)
    (hb : ∀ us rest : List Value, us.length = ps.length → bindArgs (PySem.W.fnOf name qual params body scope dV kV doc pm an cdv ct) ⟨us ++ rest, []⟩ = (newTuple rest >>= fun t => pure (ps.zip us ++ [(pv, t)]))) (hy : ∀ (A : Around) (outer : List Env) (s : Shared) (H : Hp) (vs : List V) (Q : VK) (E : XK), Room k (A.deeper (envOfC qual scope s.heap.objs.size f cdv)) → sp vs H Q E → ∃ t, PSs (cxOf CX P w K mg base N qual scope f cdv A outer s H E) body t ∧ t { nx := fun _ H' => Q .non H', rt := Q } (L2.start N vs) H) :
    FnR P w K mg base CX (k + 1) f (fun vs H Q E => ∃ ws rest, vs = ws ++ rest ∧ ws.length = ps.length ∧ rest.length ≤ sizeLine ∧ ∀ (p : Addr) (ob : Obj), H p = Option.none → ob.dict = Option.none → sp (ws ++ [V.ref p]) (upd H p (.frz ob (.tup rest))) Q E) := by
  rintro A outer s H us vs Q E hr e0 r ⟨ws, rest, rfl, hl, hz, hq⟩
  obtain ⟨u1, u2, rfl, r1, r2⟩ := StX.vals_split r
  have hn : H s.heap.objs.size = Option.none := e0.hok.fresh (Nat.le_refl _); have l1 : u1.length = ps.length := r1.length.symm.trans hl
  have l2 : u2.length ≤ sizeLine := (by rw [← r2.length]; exact hz)
  refine StX.run_bnd lk hcd S hr e0 (G := fun xs H2 => ∃ (p : Addr) (ob : Obj), H p = Option.none ∧ ob.dict = Option.none ∧ xs = ws ++ [V.ref p] ∧ H2 = upd H p (.frz ob (.tup rest))) (fun A' Ex Q' h => ?_) fun s2 H2 xs ⟨p, ob, hp, hd, ex, eH⟩ hr' => ?_
  · rw [hb u1 u2 l1]
    refine wpAny_bind (wpAny_newTuple (wpAny_pure ?_) l2)
    have at_ : (s.heap.push ({ cls := .type "tuple", data := .seq u2.toArray } : Obj)).get? s.heap.objs.size = some { cls := .type "tuple", data := .seq u2.toArray } := Heap.get?_push_size _ rfl
    have new : ObjOk P w (upd H s.heap.objs.size (.frz { cls := .type "tuple", data := .seq u2.toArray } (.tup rest))) (s.heap.push ({ cls := .type "tuple", data := .seq u2.toArray } : Obj)) s.heap.objs.size (.frz { cls := .type "tuple", data := .seq u2.toArray } (.tup rest)) :=
      ⟨at_, hz, u2, r2, ⟨_, at_, rfl, _, rfl⟩⟩
    have un := StX.un_laid (fs := frs outer) (s := s) (o := ({ cls := .type "tuple", data := .seq u2.toArray } : Obj)) (u := .frz { cls := .type "tuple", data := .seq u2.toArray } (.tup rest)) hn
    have z := h _ _ (ws ++ [V.ref s.heap.objs.size]) (u1 ++ [Value.ref s.heap.objs.size]) (StX.env0_laid e0 new) un rfl (fun e s' => hCX outer s H _ _ E e s' un (fun b o q => Heap.get?_push_of_some _ q) rfl) (r1.append (.cons rfl .nil))
      (by rw [List.length_append, List.length_append, hl] <;> rfl) ⟨_, { cls := .type "tuple", data := .seq u2.toArray }, hn, rfl, rfl, rfl⟩
    rw [List.zip_append l1.symm] at z
    exact z
  · subst ex eH
    exact hy A outer s2 _ _ Q E hr' (hq p ob hp hd)
end
end Cc

/-! The data (steps, plans, the drawing's state over the heap) and the mathematics. -/
namespace Cc
open PySem PySem.Spec PyProof.Rows L2
/-! ### steps -/
inductive Stp where
  | turn
  | meet (red : Bool) (n : Int)
def roomS (b : Bool) : Str := if b then "red" else "blue"
def stpV : Stp → List V
  | .turn => [.str "turn"]
  | .meet b n => [.str (roomS b), .int n]
def Stp.ok (c : Int) : Stp → Prop
  | .turn => True
  | .meet _ n => 0 ≤ n ∧ n ≤ c
theorem Stp.ok.mono {s : Stp} {c d : Int} (h : s.ok c) (hd : c ≤ d) : s.ok d := by
  cases s with
  | turn => trivial
  | meet b n => exact ⟨h.1, Int.le_trans h.2 hd⟩
def mx (i j : Int) : Int := if j > i then j else i
theorem mx_eq (i j : Int) : mx i j = max i j := by unfold mx; omega
/-- what a step leaves in the red room, and carries: the code's own way -/
def stepF (c : Int) (s : Stp) (r : Int) : Int × Int := match s with
  | .turn => (c - r, 0)
  | .meet true n => (r + mx 0 (n - r), mx 0 (n - r))
  | .meet false n => (r - mx 0 (n - (c - r)), mx 0 (n - (c - r)))
/-- steps: the red room, the sum -/
def stepsF (c : Int) : List Stp → Int × Int → Int × Int
  | [], x => x
  | s :: ss, x => stepsF c ss ((stepF c s x.1).1, x.2 + (stepF c s x.1).2)
theorem stepsF_app (c : Int) : ∀ (a b : List Stp) (x : Int × Int), stepsF c (a ++ b) x = stepsF c b (stepsF c a x)
  | [], _, _ => rfl
  | s :: a, b, x => by
    show stepsF c (a ++ b) _ = stepsF c b (stepsF c a _)
    exact stepsF_app c a b _
theorem stepsF_one (c : Int) (a : List Stp) (s : Stp) (x : Int × Int) : stepsF c (a ++ [s]) x = ((stepF c s (stepsF c a x).1).1, (stepsF c a x).2 + (stepF c s (stepsF c a x).1).2) := by
  rw [stepsF_app]
  rfl
theorem stepsF_add (c : Int) : ∀ (a : List Stp) (r t : Int), stepsF c a (r, t) = ((stepsF c a (r, 0)).1, t + (stepsF c a (r, 0)).2)
  | [], r, t => by simp [stepsF]
  | s :: a, r, t => by
    show stepsF c a _ = ((stepsF c a _).1, t + (stepsF c a _).2)
    rw [stepsF_add c a (stepF c s r).1 (t + (stepF c s r).2), stepsF_add c a (stepF c s r).1 (0 + (stepF c s r).2)]
    simp only [Prod.mk.injEq, true_and]
    omega
theorem take_more {α : Type} : ∀ {l : List α} {i : Nat} {x : α}, l[i]? = some x → l.take (i + 1) = l.take i ++ [x]
  | [], i, x, h => by simp at h
  | a :: l, 0, x, h => by
    have e : a = x := Option.some.inj h
    subst e
    rfl
  | a :: l, i + 1, x, h => by
    have ih := take_more (l := l) (i := i) (x := x) h
    show a :: l.take (i + 1) = a :: l.take i ++ [x]
    rw [ih]
    rfl
/-- the red room stays within the house -/
theorem stepF_in {c : Int} {s : Stp} {r : Int} (hs : s.ok c) (h0 : 0 ≤ r) (h1 : r ≤ c) : 0 ≤ (stepF c s r).1 ∧ (stepF c s r).1 ≤ c ∧ 0 ≤ (stepF c s r).2 ∧ (stepF c s r).2 ≤ c := by
  cases s with
  | turn => simp only [stepF]; omega
  | meet b n =>
    obtain ⟨h2, h3⟩ := hs
    cases b <;> simp only [stepF, mx] <;> split <;> omega
theorem stepsF_in {c : Int} : ∀ {ss : List Stp} {r t : Int}, (∀ s ∈ ss, s.ok c) → 0 ≤ r → r ≤ c → 0 ≤ t → 0 ≤ (stepsF c ss (r, t)).1 ∧ (stepsF c ss (r, t)).1 ≤ c ∧ 0 ≤ (stepsF c ss (r, t)).2
  | [], r, t, _, h0, h1, ht => ⟨h0, h1, ht⟩
  | s :: ss, r, t, hs, h0, h1, ht => by
    obtain ⟨a, b, d, _⟩ := stepF_in (hs s List.mem_cons_self) h0 h1
    exact stepsF_in (ss := ss) (fun x hx => hs x (List.mem_cons_of_mem _ hx)) a b (by show 0 ≤ t + (stepF c s r).2; omega)
/-- rounds -/
def roundsF (c : Int) (ss : List Stp) : Nat → Int × Int → Int × Int
  | 0, x => x
  | n + 1, x => roundsF c ss n (stepsF c ss x)
theorem roundsF_succ (c : Int) (ss : List Stp) : ∀ (n : Nat) (x : Int × Int), roundsF c ss (n + 1) x = stepsF c ss (roundsF c ss n x)
  | 0, x => rfl
  | n + 1, x => by
    show roundsF c ss (n + 1) (stepsF c ss x) = _
    rw [roundsF_succ c ss n (stepsF c ss x)]
    rfl
theorem roundsF_in {c : Int} {ss : List Stp} (hs : ∀ s ∈ ss, s.ok c) : ∀ {n : Nat} {r t : Int}, 0 ≤ r → r ≤ c → 0 ≤ t → 0 ≤ (roundsF c ss n (r, t)).1 ∧ (roundsF c ss n (r, t)).1 ≤ c ∧ 0 ≤ (roundsF c ss n (r, t)).2
  | 0, r, t, h0, h1, ht => ⟨h0, h1, ht⟩
  | n + 1, r, t, h0, h1, ht => by
    rw [roundsF_succ]
    obtain ⟨a, b, d⟩ := roundsF_in hs (n := n) h0 h1 ht
    exact stepsF_in hs a b d
/-- behind n rounds -/
def afterF (c : Int) (ss : List Stp) (r : Int) (n : Nat) : Int × Int := roundsF c ss n (r, 0)

/-! ### steps over the heap -/
def StepAt (H : Hp) (v : V) (s : Stp) : Prop := ∃ t, v = .ref t ∧ H t = some (.tup (stpV s))
def Steps (H : Hp) (vs : List V) (ss : List Stp) : Prop := Paired (StepAt H) vs ss
theorem Steps.get {H : Hp} : ∀ {vs : List V} {ss : List Stp} {i : Nat} {v : V}, Steps H vs ss → vs[i]? = some v → ∃ s, ss[i]? = some s ∧ StepAt H v s
  | [], [], i, v, .nil, e => by simp at e
  | _, _, 0, v, .cons r _, e => by
    have e' : _ = v := Option.some.inj e
    subst e'
    exact ⟨_, rfl, r⟩
  | _, _, i + 1, v, .cons _ t, e => by
    obtain ⟨s, h1, h2⟩ := Steps.get (i := i) (v := v) t e
    exact ⟨s, h1, h2⟩
theorem Steps.length {H : Hp} {vs : List V} {ss : List Stp} (h : Steps H vs ss) : vs.length = ss.length := Paired.length h
theorem Steps.append {H : Hp} : ∀ {vs ws : List V} {ss us : List Stp}, Steps H vs ss → Steps H ws us → Steps H (vs ++ ws) (ss ++ us)
  | _, _, _, _, .nil, b => b
  | _, _, _, _, .cons r t, b => .cons r (Steps.append t b)
theorem Steps.mono {H H' : Hp} {vs : List V} {ss : List Stp} (h : Steps H vs ss) (k : ∀ t xs, H t = some (.tup xs) → H' t = some (.tup xs)) : Steps H' vs ss :=
  Paired.mapP h fun _ _ ⟨t, e, q⟩ => ⟨t, e, k t _ q⟩
theorem Steps.same {H H' : Hp} {vs : List V} {ss : List Stp} (h : Steps H vs ss) (k : Same H H') : Steps H' vs ss := h.mono fun t xs e => k t _ e
theorem Steps.get2 {H : Hp} {vs : List V} {ss : List Stp} (h : Steps H vs ss) {i : Nat} {s : Stp} (e : ss[i]? = some s) : ∃ v, vs[i]? = some v ∧ StepAt H v s := by
  have hi : i < vs.length := by rw [h.length]; exact (List.getElem?_eq_some_iff.mp e).1
  obtain ⟨s', h1, h2⟩ := h.get (List.getElem?_eq_getElem hi)
  rw [e] at h1
  cases h1
  exact ⟨_, List.getElem?_eq_getElem hi, h2⟩
/-- a tuple that is locked and has no dict of its own -/
def TupP (H : Hp) (tp : Addr) (ws : List V) : Prop := ∃ o : Obj, o.dict = none ∧ H tp = some (.frz o (.tup ws))
theorem TupP.same {H H' : Hp} {tp : Addr} {ws : List V} (h : TupP H tp ws) (k : Same H H') : TupP H' tp ws :=
  let ⟨o, d, e⟩ := h
  ⟨o, d, k _ _ e⟩
theorem TupP.sq {K : PySem.W.Frag} {H : Hp} {tp : Addr} {ws : List V} (h : TupP H tp ws) : SqT K H tp ws :=
  let ⟨o, _, e⟩ := h
  .inl (.inr ⟨o, e⟩)
theorem TupP.ne {H : Hp} {tp l : Addr} {ws : List V} (h : TupP H tp ws) (hl : H l = none) : tp ≠ l := fun z => by
  obtain ⟨o, _, e⟩ := h
  rw [z, hl] at e
  cases e
/-- a plan -/
def PlanAt (C : Addr) (H : Hp) (p : Addr) (ss : List Stp) : Prop := ∃ dx tp ws, H p = some (.ins C dx [("step_tuple", .ref tp)]) ∧ TupP H tp ws ∧ Steps H ws ss
theorem PlanAt.same {C : Addr} {H H' : Hp} {p : Addr} {ss : List Stp} (h : PlanAt C H p ss) (k : Same H H') : PlanAt C H' p ss :=
  let ⟨dx, tp, ws, a, b, d⟩ := h
  ⟨dx, tp, ws, k _ _ a, b.same k, d.same k⟩
/-- all but what stands at s is as it was -/
def But (s : Addr) (H H' : Hp) : Prop := ∀ b o, b ≠ s → H b = some o → H' b = some o
theorem But.refl (s : Addr) (H : Hp) : But s H H := fun _ _ _ e => e
theorem But.trans {s : Addr} {H H1 H2 : Hp} (a : But s H H1) (b : But s H1 H2) : But s H H2 := fun c o n e => b c o n (a c o n e)
theorem But.of {s : Addr} {H H' : Hp} (a : Same H H') : But s H H' := fun c o _ e => a c o e
/-- a list that nobody writes: locked, or of the written part -/
def SqF (K : PySem.W.Frag) (H : Hp) (a : Addr) (xs : List V) : Prop := (∃ o, H a = some (.frz o (.lst xs))) ∨ SqL K (fun _ => none) a xs
theorem SqF.sq {K : PySem.W.Frag} {H : Hp} {a : Addr} {xs : List V} (h : SqF K H a xs) : SqL K H a xs := by
  rcases h with h | ((h | ⟨o, h⟩) | h)
  · exact .inl (.inr h)
  · cases h
  · cases h
  · exact .inr h
theorem SqF.keep {K : PySem.W.Frag} {H H' : Hp} {a : Addr} {xs : List V} (h : SqF K H a xs) (k : ∀ b o u, H b = some (.frz o u) → H' b = some (.frz o u)) : SqF K H' a xs := by
  rcases h with ⟨o, h⟩ | h
  · exact .inl ⟨o, k _ _ _ h⟩
  · exact .inr h
theorem sqF_of {K : PySem.W.Frag} {H : Hp} {a : Addr} {xs : List V} (h : SqL K H a xs) (o : Only H) : SqF K H a xs := by
  rcases h with (h | h) | h
  · rcases o a with q | ⟨ob, ys, q⟩
    · rw [q] at h
      cases h
    · rw [q] at h
      cases h
  · exact .inl h
  · exact .inr (.inr h)
/-- the drawing's state: a list of the script, a place, two numbers -/
def DrawAt (K : PySem.W.Frag) (H : Hp) (s : Addr) : Prop := ∃ (a : Addr) (ns : List Int) (p x y : Int), H s = some (.lst [.ref a, .int p, .int x, .int y]) ∧ SqF K H a (ns.map V.int) ∧ ns.length ≤ 63 ∧ 0 ≤ p
theorem DrawAt.lst {K : PySem.W.Frag} {H : Hp} {s : Addr} (h : DrawAt K H s) : ∃ xs, H s = some (.lst xs) := let ⟨_, _, _, _, _, e, _⟩ := h; ⟨_, e⟩
theorem DrawAt.same {K : PySem.W.Frag} {H H' : Hp} {s : Addr} (h : DrawAt K H s) (k : Same H H') : DrawAt K H' s :=
  let ⟨a, ns, p, x, y, e, q, l, z⟩ := h
  ⟨a, ns, p, x, y, k _ _ e, q.keep fun b o u e => k b _ e, l, z⟩
/-- .. a list changed elsewhere -/
theorem DrawAt.but {K : PySem.W.Frag} {H H' : Hp} {s l : Addr} (h : DrawAt K H s) (k : But l H H') (hl : ∃ xs, H l = some (.lst xs)) (n : s ≠ l) : DrawAt K H' s :=
  let ⟨a, ns, p, x, y, e, q, z⟩ := h
  ⟨a, ns, p, x, y, k _ _ n e, q.keep fun b o u e => k b _ (let ⟨_, e2⟩ := hl; ne_of e e2 (fun q => nomatch q)) e, z⟩
theorem Steps.but {H H' : Hp} {s : Addr} {vs : List V} {ss : List Stp} (h : Steps H vs ss) (k : But s H H') (hs : ∃ xs, H s = some (.lst xs)) : Steps H' vs ss :=
  h.mono fun t xs e => k t _ (let ⟨_, e2⟩ := hs; ne_of e e2 (fun q => nomatch q)) e
theorem PlanAt.but {C : Addr} {H H' : Hp} {p s : Addr} {ss : List Stp} (h : PlanAt C H p ss) (k : But s H H') (hs : ∃ xs, H s = some (.lst xs)) : PlanAt C H' p ss := by
  obtain ⟨dx, tp, ws, a, b, d⟩ := h
  obtain ⟨ys, e2⟩ := id hs
  obtain ⟨o, d0, b'⟩ := b
  exact ⟨dx, tp, ws, k _ _ (ne_of a e2 (fun q => nomatch q)) a, ⟨o, d0, k _ _ (ne_of b' e2 (fun q => nomatch q)) b'⟩, d.but k hs⟩
theorem TupP.but {s : Addr} {H H' : Hp} {tp : Addr} {ws : List V} (h : TupP H tp ws) (k : But s H H') (n : tp ≠ s) : TupP H' tp ws :=
  let ⟨o, d, e⟩ := h
  ⟨o, d, k _ _ n e⟩
theorem same_upd {H : Hp} {p : Addr} {o : HO} (h : H p = none) : Same H (upd H p o) := fun b u e => by
  rw [upd_ne (ne_of_none e h)]
  exact e
theorem but_upd {H : Hp} {p : Addr} {o : HO} : But p H (upd H p o) := fun b u n e => by
  rw [upd_ne n]
  exact e
theorem lk_self {f : Str} {v : V} : List.lookup f [(f, v)] = some v := by simp [List.lookup]
theorem lk_no {f g : Str} {v : V} (h : ¬ (f == g) = true) : List.lookup f [(g, v)] = none := by
  have e : (f == g) = false := by simpa using h
  simp [List.lookup, e]
theorem room_eq (b : Bool) : decide (V.str (roomS b) = V.str "red") = b := by
  cases b <;> decide +kernel
theorem eqv_turn : PyData.eqv (.tuple [.str "turn"]) (.tuple [.str "turn"]) = true := by decide +kernel
theorem eqv_meet (b : Bool) (n : Int) : PyData.eqv (.tuple [.str (roomS b), .int n]) (.tuple [.str "turn"]) = false := by
  cases b <;> simp [PyData.eqv, PyData.eqvAll, roomS]
theorem shaped_meet (b : Bool) (n : Int) : SeqAt.shaped (.tuple [.str (roomS b), .int n]) = true := by
  have h1 : PyData.strOk (roomS b) = true := by cases b <;> decide +kernel
  simp [SeqAt.shaped, PyData.canLay0, PyData.canLayAll0, PyData.depth, PyData.depthAll, h1]
end Cc

namespace Cc
open PySem PySem.Spec PyProof.Rows L2
/-! ### the text by places -/
def top (i : Nat) : Stmt := PySem.Challenge.pw_chaircarry_k46_whole_daybooks_for_all_st.main.body.getD i (.Pass ⟨0, 0, 0, 0⟩)
abbrev sIsNum : Stmt := top 14
abbrev sIsWhole : Stmt := top 13
abbrev sChkNum : Stmt := top 15
abbrev sIsStep : Stmt := top 18
abbrev sInit : Stmt := inClass (top 19) 2
abbrev sSteps : Stmt := inClass (top 19) 4
abbrev sJoined : Stmt := inClass (top 19) 6
/-! ### promises -/
def spIsWhole : Sp := fun vs H Q _ => ∃ v : Int, vs = [.int v] ∧ Q (.bl true) H
def spIsNum : Sp := fun vs H Q _ => ∃ (v a b : Int), vs = [.int v, .int a, .int b] ∧ Q (.bl (decide (a ≤ v ∧ v ≤ b))) H
def spChkNum : Sp := fun vs H Q _ => ∃ (v a b : Int), vs = [.int v, .int a, .int b] ∧ a ≤ v ∧ v ≤ b ∧ Q .non H
def spChkHouse (C : Addr) : Sp := fun vs H Q _ => ∃ (p : Addr) (c : Int) (ss : List Stp), vs = [.ref p, .int c] ∧ PlanAt C H p ss ∧ 0 ≤ c ∧ c ≤ 1000000000000000000 ∧ (∀ s ∈ ss, s.ok c) ∧ ss.length ≤ 60 ∧ ∀ H', Same H H' → Q .non H'
def spIsStep : Sp := fun vs H Q _ => ∃ (v : V) (s : Stp), vs = [v] ∧ StepAt H v s ∧ s.ok 1000000000000000000 ∧ ∀ H', Same H H' → Q (.bl true) H'
def spInitS (C : Addr) : Sp := fun vs H Q _ => ∃ (x tp dx : Addr) (ws : List V) (ss : List Stp), vs = [.ref x, .ref tp] ∧ H x = some (.ins C dx []) ∧ TupP H tp ws ∧ Steps H ws ss ∧ ss.length ≤ 60 ∧ (∀ s ∈ ss, s.ok 1000000000000000000) ∧
  ∀ H', But x H H' → H' x = some (.ins C dx [("step_tuple", .ref tp)]) → Q .non H'
/-- Plan.__init__ by positional values -/
def spInit (C : Addr) : Sp := fun vs H Q _ => ∃ (x dx : Addr) (ws : List V) (ss : List Stp), vs = .ref x :: ws ∧ H x = some (.ins C dx []) ∧ Steps H ws ss ∧ ss.length ≤ 60 ∧ (∀ s ∈ ss, s.ok 1000000000000000000) ∧
  ∀ H' tp, But x H H' → H' x = some (.ins C dx [("step_tuple", .ref tp)]) → TupP H' tp ws → Q .non H'
def spJoinedS (C : Addr) : Sp := fun vs H Q _ => ∃ (x tp : Addr) (ss : List Stp) (o : Addr) (us : List Stp), vs = [.ref x, .ref tp] ∧ PlanAt C H x ss ∧ H tp = some (.tup [.ref o]) ∧ PlanAt C H o us ∧ (ss ++ us).length ≤ 60 ∧ (∀ s ∈ ss ++ us, s.ok 1000000000000000000) ∧
  ∀ p H', Same H H' → PlanAt C H' p (ss ++ us) → Q (.ref p) H'
def spJoined (C : Addr) : Sp := fun vs H Q _ => ∃ (x : Addr) (ss : List Stp) (o : Addr) (us : List Stp), vs = [.ref x, .ref o] ∧ PlanAt C H x ss ∧ PlanAt C H o us ∧ (ss ++ us).length ≤ 60 ∧ (∀ s ∈ ss ++ us, s.ok 1000000000000000000) ∧
  ∀ p H', Same H H' → PlanAt C H' p (ss ++ us) → Q (.ref p) H'
/-- a def that calls none of the program's: it wants no room of its own -/
theorem fn_low {P : Program} {w : World} {K : PySem.W.Frag} {mg : Str → Option Value} {base : Heap} {x qual : Str} {st : Stmt} {f : Addr} {fd : FuncData} {N ps : List Str} {sp : Sp} (F : Fun K x qual st f fd) (S : FnScope N ps (defScope st)) (len : ∀ vs H Q E, sp vs H Q E → vs.length = ps.length)
    (hb : ∀ (cdv : Value) (A : Around) (outer : List Env) (s : Shared) (H : Hp) (vs : List V) (Q : VK) (E : XK), sp vs H Q E → ∃ t, PSs (cxOf CX0 P w K mg base N qual (defScope st) f cdv A outer s H E).nox (defBody st) t ∧ t { nx := fun _ H' => Q .non H', rt := Q } (start N vs) H) : FnOk P w K mg base CX0 0 f fd ps sp := by
  obtain ⟨oc, od, kV, dc, pm, an, cdv, ct, osl, rfl, lk, hcd⟩ := F.ex
  refine ⟨len, fun A outer s H args us vs Q E hr e0 hbd r hsp => ?_⟩
  have hl := len _ _ _ _ hsp
  have KX : K.In s.heap := e0.mod.kin.keeps (fun b o e => (e0.bs b o e).1)
  have lim := e0.mod.nolimit.keeps (fun b o e => (e0.bs b o e).1)
  have hk : ∀ y ∈ ps.zip us, (defScope st).names.lookup y.1 = some .local ∨ ((defScope st).names.lookup y.1 = some .cell ∧ ((cellsFrom (s.heap.objs.size + 1) (defScope st).names []).lookup y.1).isSome = true) := by
    rintro ⟨n, v⟩ hy
    exact (S.par n (List.of_mem_zip hy).1).imp id fun q => ⟨q, PySem.W.cellsFrom_some _ _ _ (.inl q)⟩
  refine codeAny_call_function hr.depth (KX _ _ lk) rfl S.co S.gen rfl (PySem.W.codeRec_of KX hcd) (hbd _ _ _ _ (wpAny_newFunctionEnv_cells S.kind hk fun env he s1 x => ?_))
  subst he
  obtain ⟨t, ht, hq⟩ := hb cdv A outer s H vs Q E hsp
  refine ⟨lim.keeps (x.toInCall.keep), codeAny_func ?_⟩
  have I : Inv (cxOf CX0 P w K mg base N qual (defScope st) f cdv A outer s H E) [] (start N vs) H s1 := inv_start S hr.hd e0 hl r x
  refine wpAny_mono (ht.nox.run [] s1 (start N vs) H _ I hq) (fun fl s' hs => ?_) fun e s' hs => hs
  match fl, hs with
  | .ret u, ⟨v, σ', H', J, rv, q⟩ => exact ⟨v, H', J.os, J.bare, J.base, J.hok, rv, q⟩
  | .next, ⟨σ', H', J, q⟩ => exact ⟨.non, H', J.os, J.bare, J.base, J.hok, rfl, q⟩
  | .brk, ⟨_, _, _, q⟩ => exact q.elim
  | .cont, ⟨_, _, _, q⟩ => exact q.elim
/-! ### what the top has written -/
structure Bt (mg : Str → Option Value) : Prop where
  isinstance : mg "isinstance" = none
  int : mg "int" = none
  bool : mg "bool" = none
  tuple : mg "tuple" = none
  list : mg "list" = none
  len : mg "len" = none
  max : mg "max" = none
  min : mg "min" = none
  abs : mg "abs" = none
  enumerate : mg "enumerate" = none
  range : mg "range" = none
  sum : mg "sum" = none
  sorted : mg "sorted" = none
  divmod : mg "divmod" = none
  zip : mg "zip" = none
  str : mg "str" = none
  dict : mg "dict" = none
  verr : mg "ValueError" = none
  any : mg "any" = none
structure Txt (K : PySem.W.Frag) (mg : Str → Option Value) (C TU pS gS : Addr) (mc : Value) : Prop where
  b : Bt mg
  cl : Cls K C
  nS : NoAttr K C "step_tuple"
  gP : mg "Plan" = some (.ref C)
  rd : ClX.CRead K C mc
  cs : ∃ u, ClX.CVal K C mc "MAX_STEPS" (.int 60) u
  cc : ∃ u, ClX.CVal K C mc "MAX_CHAIRS" (.int 1000000000000000000) u
  con : ∃ u, Con K C "MAX_CHAIRS" (.int 1000000000000000000) u
  gT : mg "TURN" = some (.ref TU)
  tT : ∀ H, SqT K H TU [.str "turn"]
  pr : PropOf K C "steps" pS gS
section
variable {P : Program} {w : World} {K : PySem.W.Frag} {mg : Str → Option Value} {base : Heap} {C TU pS gS : Addr} {mc : Value}
/-! ### checks -/
theorem scIsWhole : FnScope ["value"] ["value"] (defScope sIsWhole) := ⟨rfl, rfl, rfl, by decide +kernel, rfl, by decide +kernel, by decide +kernel⟩
theorem ok_iswhole {f : Addr} {fd : FuncData} (F : Fun K "is_whole" "is_whole" sIsWhole f fd) (B : Bt mg) : FnOk P w K mg base CX0 0 f fd ["value"] spIsWhole := by
  refine fn_low F scIsWhole (fun vs H Q E h => ?_) (fun cdv A outer s H vs Q E h => ?_)
  · obtain ⟨v, rfl, _⟩ := h
    rfl
  · obtain ⟨v, rfl, k⟩ := h
    refine ⟨_, pss_one (ps_ret (pe_and (pe_callB call_isi (by rfl) B.isinstance (by decide +kernel) (pa_cons (pv 0) (pa_cons (pe_bltn (v := .ty "int") (by rfl) B.int (by decide +kernel) rfl) pa_nil)))
      (pe_one (pe_not (pe_callB call_isi (by rfl) B.isinstance (by decide +kernel) (pa_cons (pv 0) (pa_cons (pe_bltn (v := .ty "bool") (by rfl) B.bool (by decide +kernel) rfl) pa_nil))))))), ?_⟩
    refine ⟨_, rfl, _, _, _, _, true, rfl, .ty "int", .base (.int v), kit_ty (by decide +kernel), true, rfl, ?_⟩
    exact iteT ⟨_, rfl, _, _, _, _, false, rfl, .ty "bool", .base (.int v), kit_ty (by decide +kernel), false, rfl, k⟩
theorem scIsNum : FnScope ["value", "least", "most"] ["value", "least", "most"] (defScope sIsNum) := ⟨rfl, rfl, rfl, by decide +kernel, rfl, by decide +kernel, by decide +kernel⟩
theorem ok_isnum {f fW : Addr} {fd : FuncData} (F : Fun K "is_number" "is_number" sIsNum f fd) (W : Dn P w K mg base 0 "is_whole" fW spIsWhole) : FnOk P w K mg base CX0 1 f fd ["value", "least", "most"] spIsNum := by
  refine F.ok scIsNum (fun vs H Q E h => ?_) (fun cdv A outer s H vs Q E hr h => ?_)
  · obtain ⟨v, a, b, rfl, _⟩ := h
    rfl
  · obtain ⟨v, a, b, rfl, k⟩ := h
    refine ⟨_, pss_one (ps_ret (pe_and (pe_callR W.ok hr rfl W.at_ W.kp pass0 (pa_cons (pv 0) pa_nil))
      (pe_one (pe_chain op_le op_le (pv 1) (pv 0) (pv 2))))), ?_⟩
    refine ⟨_, rfl, v, rfl, true, rfl, ?_⟩
    refine iteT ⟨_, rfl, _, rfl, _, _, rfl, rfl, _, rfl, ?_⟩
    by_cases c : a ≤ v
    · rw [decide_eq_true c]
      refine iteT ⟨_, rfl, _, _, rfl, rfl, ?_⟩
      have e : decide (v ≤ b) = decide (a ≤ v ∧ v ≤ b) := by simp [c]
      show Q (V.bl (decide (v ≤ b))) H
      rw [e]
      exact k
    · rw [if_neg (by simp [c])]
      have e : (false : Bool) = decide (a ≤ v ∧ v ≤ b) := by simp [c]
      show Q (V.bl false) H
      rw [e]
      exact k
theorem scChkNum : FnScope ["value", "least", "most"] ["value", "least", "most"] (defScope sChkNum) := ⟨rfl, rfl, rfl, by decide +kernel, rfl, by decide +kernel, by decide +kernel⟩
theorem ok_chknum {f fN : Addr} {fd : FuncData} (F : Fun K "check_number" "check_number" sChkNum f fd) (N : Dn P w K mg base 1 "is_number" fN spIsNum) : FnOk P w K mg base CX0 2 f fd ["value", "least", "most"] spChkNum := by
  refine F.ok scChkNum (fun vs H Q E h => ?_) (fun cdv A outer s H vs Q E hr h => ?_)
  · obtain ⟨v, a, b, rfl, _⟩ := h
    rfl
  · obtain ⟨v, a, b, rfl, h1, h2, k⟩ := h
    refine ⟨_, pss_one (ps_if (pt_not (pt_val (pe_callR N.ok hr rfl N.at_ N.kp pass0 (pa_cons (pv 0) (pa_cons (pv 1) (pa_cons (pv 2) pa_nil)))))) (pss_one ps_never) pss_nil), ?_⟩
    refine ⟨_, rfl, _, rfl, _, rfl, v, a, b, rfl, _, rfl, ?_⟩
    rw [decide_eq_true (show a ≤ v ∧ v ≤ b from ⟨h1, h2⟩)]
    exact iteF k
/-! ### the plan's own -/
theorem scSteps : FnScope ["self"] ["self"] (defScope sSteps) := ⟨rfl, rfl, rfl, by decide +kernel, rfl, by decide +kernel, by decide +kernel⟩
theorem ok_steps {f : Addr} {fd : FuncData} (F : Fun K "steps" "Plan.steps" sSteps f fd) (T : Txt K mg C TU pS gS mc) : FnOk P w K mg base CX0 1 f fd ["self"] (getSp C "step_tuple") := by
  refine F.ok scSteps (fun vs H Q E h => ?_) (fun cdv A outer s H vs Q E hr h => ?_)
  · obtain ⟨a, dx, fs, v, rfl, _⟩ := h
    rfl
  · obtain ⟨a, dx, fs, v, rfl, h1, h2, k⟩ := h
    exact ⟨_, pss_one (ps_ret (pe_fld (pv 0) rfl)), _, rfl, a, C, dx, fs, v, rfl, h1, T.cl, T.nS, h2, k⟩
/-- e.steps, e a plan -/
structure Gs (P : Program) (w : World) (K : PySem.W.Frag) (mg : Str → Option Value) (base : Heap) (C gS : Addr) (fd : FuncData) : Prop where
  ok : FnOk P w K mg base CX0 1 gS fd ["self"] (getSp C "step_tuple")
  b : Binds K fd ["self"] []
theorem scIsStep : FnScope ["step"] ["step"] (defScope sIsStep) := ⟨rfl, rfl, rfl, by decide +kernel, rfl, by decide +kernel, by decide +kernel⟩
theorem ok_isstep {f fN : Addr} {fd : FuncData} (F : Fun K "is_step" "is_step" sIsStep f fd) (T : Txt K mg C TU pS gS mc) (N : Dn P w K mg base 1 "is_number" fN spIsNum) : FnOk P w K mg base CX0 2 f fd ["step"] spIsStep := by
  refine F.ok scIsStep (fun vs H Q E h => ?_) (fun cdv A outer s H vs Q E hr h => ?_)
  · obtain ⟨v, s, rfl, _⟩ := h
    rfl
  · obtain ⟨v, st, rfl, ⟨t, rfl, ht⟩, ok, k⟩ := h
    obtain ⟨u, hu⟩ := T.cc
    refine ⟨_, pss_cons (ps_if (pt_not (pt_val (pe_callB call_isi (by rfl) T.b.isinstance (by decide +kernel) (pa_cons (pv 0) (pa_cons (pe_bltn (v := .ty "tuple") (by rfl) T.b.tuple (by decide +kernel) rfl) pa_nil))))) (pss_one (ps_ret pe_bl)) pss_nil)
      (pss_cons (ps_if (pt_cmpR op_eq (pe_callB call_len (by rfl) T.b.len PySem.boot_len (pa_cons (pv 0) pa_nil)) pe_int (nomark _))
        (pss_one (ps_ret (pe_and (pe_cmpR op_in_seq (pe_ix ix_tup (pv 0) pe_int (fun _ _ => rfl)) (pe_tup (pa_cons pe_str (pa_cons pe_str pa_nil))) (by rfl))
          (pe_one (pe_callR N.ok hr rfl N.at_ N.kp pass0 (pa_cons (pe_ix ix_tup (pv 0) pe_int (fun _ _ => rfl)) (pa_cons pe_int (pa_cons (ClX.pe_cval (pe_glob (v := .ref C) rfl T.gP rfl)) pa_nil)))))))) pss_nil)
      (pss_one (ps_ret (pe_cmpR (op_eqD hr.units) (pv 0) (pe_glob (v := .ref TU) rfl T.gT rfl) (nomark _))))), ?_⟩
    refine ⟨_, rfl, _, _, _, _, true, rfl, .ty "tuple", .base (.tup ht), kit_ty (by decide +kernel), true, rfl, ?_⟩
    refine iteF ?_
    refine ⟨_, rfl, _, _, rfl, .inr ⟨_, SqT.of ht, rfl⟩, rfl, ?_⟩
    cases st with
    | turn =>
      refine ⟨_, rfl, iteF ?_⟩
      refine ⟨_, rfl, .tuple [.str "turn"], .tuple [.str "turn"], .tup (SqT.of ht) (.cons (.str _) .nil), .tup (T.tT _) (.cons (.str _) .nil), by decide +kernel, by decide +kernel, ?_⟩
      have e : PyData.eqv (.tuple [.str "turn"]) (.tuple [.str "turn"]) = true := by decide +kernel
      rw [e]
      exact k H (Same.refl H)
    | meet bb n =>
      refine ⟨_, rfl, iteT ?_⟩
      refine ⟨_, rfl, t, _, _, _, rfl, rfl, SqT.of ht, at_of (j := 0) rfl rfl, by show 2 ≤ sizeLine; decide, fun p hp => ?_⟩
      have s1 : Same H (upd H p (.tup [.str "red", .str "blue"])) := same_upd hp
      refine ⟨p, _, rfl, .inr (SqT.of upd_same), rfl, by decide, _, rfl, ?_⟩
      have e : inV (.str (roomS bb)) [.str "red", .str "blue"] = true := by cases bb <;> decide +kernel
      rw [e]
      refine iteT ⟨_, rfl, t, _, _, _, rfl, rfl, SqT.of (s1 _ _ ht), at_of (j := 1) rfl rfl, C, mc, _, u, rfl, T.rd, hu, n, 0, _, rfl, ?_⟩
      rw [decide_eq_true (show (0 : Int) ≤ n ∧ n ≤ 1000000000000000000 from ok)]
      exact k _ s1
theorem scInit : FnScope ["self", "steps", "index", "step"] ["self", "steps"] (defScope sInit) := ⟨rfl, rfl, rfl, by decide +kernel, rfl, by decide +kernel, by decide +kernel⟩
theorem ok_init {f fS : Addr} {fd : FuncData} (F : Fun K "__init__" "Plan.__init__" sInit f fd) (T : Txt K mg C TU pS gS mc) (N : Dn P w K mg base 2 "is_step" fS spIsStep) : FnR P w K mg base CX0 3 f (spInit C) := by
  obtain ⟨z1, z2, z3, z4, z5, z6, cdv, z7, z8, rfl, lk, hcd⟩ := F.ex
  refine (fn_starZ (ps := ["self"]) (pv := "steps") (sp := spInitS C) (k := 2) lk hcd scInit StX.cxUp_none (StX.bind_star1 (B := fun us => bindArgs _ ⟨us, []⟩) (fun _ => rfl) (fun _ _ _ => rfl)) fun A outer s H vs Q E hr h => ?_).imp fun vs H Q E h => ?_
  · obtain ⟨x, tp, dx, ws, ss, rfl, e1, e2, e3, hl, hs, k⟩ := h
    obtain ⟨u, hu⟩ := T.cs
    suffices h : ∃ t, PSs (cxOf CX0 P w K mg base ["self", "steps", "index", "step"] "Plan.__init__" (defScope sInit) f cdv A outer s H E).nox (defBody sInit) t ∧ t { nx := fun _ H' => Q .non H', rt := Q } (start ["self", "steps", "index", "step"] [.ref x, .ref tp]) H by
      obtain ⟨t, h1, h2⟩ := h
      exact ⟨t, h1.nox, h2⟩
    refine ⟨_, pss_cons (ps_for PassesOwn.never rfl (pi_enumT (by rfl) T.b.enumerate (pa_cons (pv 1) pa_nil))
        (pg_tup rfl (pgs_cons (pg_name (i := 2) scInit.nd rfl (.inl rfl)) (pgs_cons (pg_name (i := 3) scInit.nd rfl (.inl rfl)) pgs_nil)))
        (pss_one (ps_if (PW.pt (pw_or (pt_cmpR op_eq (pv 2) (ClX.pe_cval (pe_glob (v := .ref C) rfl T.gP rfl)) (nomark _))
          (pw_or1 (pt_not (pt_val (pe_callR N.ok hr rfl N.at_ N.kp pass0 (pa_cons (pv 3) pa_nil))))))) (pss_one ps_never) pss_nil)))
      (pss_one (ps_fld (pv 0) (pv 1) rfl)), ?_⟩
    refine ⟨_, rfl, tp, ws, rfl, e2.sq, ?_⟩
    refine for_it (walk_enumT (xs := ws)) (fun i σ H' => ∃ a b, σ = [some (.ref x), some (.ref tp), a, b] ∧ Same H H') ⟨none, none, rfl, Same.refl H⟩ (fun i σ H' _ ⟨_, _, _, s1⟩ => (e2.same s1).sq) ?_ ?_
    · rintro i v σ H1 H2 hi ⟨a, b, rfl, s1⟩ ⟨q, y1, y2, rfl, n1, rfl, z1, z2⟩
      obtain ⟨st, hst, t, rfl, ht⟩ := e3.get z2
      have okst := hs st (List.mem_of_getElem? hst)
      have s2 : Same H (upd H1 q (.tup [y1, .ref t])) := s1.trans (same_upd n1)
      have ht2 := s2 _ _ ht
      cases z1
      refine ⟨q, _, rfl, SqT.of upd_same, rfl, _, _, rfl, _, _, rfl, rfl, ?_⟩
      have hi' : i < 60 := by rw [e3.length] at hi; omega
      refine ⟨_, rfl, C, mc, _, u, rfl, T.rd, hu, rfl, _, rfl, ?_⟩
      rw [decide_eq_false (show ¬ V.int (i : Int) = V.int 60 from fun z => by injection z with z; omega)]
      refine iteF ?_
      refine ⟨_, rfl, _, st, rfl, ⟨t, rfl, ht2⟩, okst, fun H3 s3 => ⟨_, rfl, ?_⟩⟩
      exact iteF ⟨_, _, rfl, s2.trans s3⟩
    · rintro σ H' ⟨a, b, rfl, s1⟩
      refine ⟨_, rfl, _, rfl, x, C, dx, _, rfl, s1 _ _ e1, T.cl, T.nS, (by show 0 < 1000; decide), ?_⟩
      exact k _ (fun b o n e => by rw [upd_ne n]; exact s1 _ _ e) upd_same
  · obtain ⟨x, dx, ws, ss, rfl, e1, e3, hl, hs, k⟩ := h
    refine ⟨[.ref x], ws, rfl, rfl, ?_, fun p ob hp hd => ?_⟩
    · rw [e3.length]
      exact Nat.le_trans hl (by decide)
    · have s1 : Same H (upd H p (.frz ob (.tup ws))) := same_upd hp
      refine ⟨x, p, dx, ws, ss, rfl, s1 _ _ e1, ⟨ob, hd, upd_same⟩, e3.same s1, hl, hs, fun H' b1 b2 => ?_⟩
      exact k H' p (fun b o n e => b1 b o n (s1 _ _ e)) b2 ⟨ob, hd, b1 _ _ (ne_of_none e1 hp).symm upd_same⟩
end
end Cc

/-! Texts: numbers in words, rows of a daybook. -/
namespace Cc
open PySem PySem.Spec PyProof.Rows L2 TL
/-! ### numbers in words -/
def digs (l : List Nat) : Bool := l.all fun c => decide (48 ≤ c ∧ c ≤ 57)
/-- the signs of a number without a sign before it -/
def natOk (l : List Nat) : Bool := !l.isEmpty && digs l && !(l.head? == some 48 && decide (1 < l.length))
abbrev valL (l : List Nat) : Nat := NumText.digitsVal l
def intL (l : List Nat) : Option Int :=
  if natOk l then some (valL l : Int) else match l with
  | 45 :: r => if natOk r && !(r == [48]) then some (-(valL r : Int)) else none
  | _ => none
def numOk (m : Int) (w : Str) : Bool := natOk (tl w) && decide ((valL (tl w) : Int) ≤ m)
/-- a word that is an integer from 0 to m -/
def inR (m : Int) : Option Int → Bool
  | none => false
  | some v => decide (0 ≤ v ∧ v ≤ m)
theorem digs_cons {c : Nat} {l : List Nat} : digs (c :: l) = (decide (48 ≤ c ∧ c ≤ 57) && digs l) := by
  unfold digs
  rw [List.all_cons]
theorem val_foldl_ge : ∀ (l : List Nat) (a : Nat), a ≤ l.foldl (fun acc c => acc * 10 + (c - 48)) a
  | [], a => Nat.le_refl a
  | c :: l, a => by
    rw [List.foldl_cons]
    exact Nat.le_trans (by omega) (val_foldl_ge l _)
theorem val_pos {c : Nat} {l : List Nat} (h : 48 < c) : 0 < valL (c :: l) := by
  show 0 < (c :: l).foldl (fun acc c => acc * 10 + (c - 48)) 0
  rw [List.foldl_cons]
  exact Nat.lt_of_lt_of_le (by omega) (val_foldl_ge l _)
theorem inR_intL (m : Int) (w : Str) : inR m (intL (tl w)) = numOk m w := by
  unfold intL numOk
  generalize tl w = l
  cases h : natOk l with
  | true =>
    show decide (0 ≤ (valL l : Int) ∧ (valL l : Int) ≤ m) = (true && decide ((valL l : Int) ≤ m))
    rw [Bool.true_and]
    exact decide_eq_decide.mpr ⟨fun z => z.2, fun z => ⟨by omega, z⟩⟩
  | false =>
    rw [Bool.false_and, if_neg (by decide)]
    split
    · rename_i r
      by_cases c : (natOk r && !(r == [48])) = true
      · rw [if_pos c]
        rw [Bool.and_eq_true] at c
        obtain ⟨c1, c2⟩ := c
        have hp : 0 < valL r := by
          unfold natOk at c1
          rw [Bool.and_eq_true, Bool.and_eq_true] at c1
          obtain ⟨⟨z1, z2⟩, z3⟩ := c1
          cases r with
          | nil => cases z1
          | cons d r =>
            rw [digs_cons, Bool.and_eq_true] at z2
            have hd := of_decide_eq_true z2.1
            refine val_pos ?_
            by_cases e : d = 48
            · subst e
              exfalso
              cases r with
              | nil => cases c2
              | cons d2 r => simp at z3
            · omega
        show decide (0 ≤ -(valL r : Int) ∧ -(valL r : Int) ≤ m) = false
        exact decide_eq_false fun z => by omega
      · rw [if_neg c]
        rfl
    · rfl
/-! ### rows -/
def isRoom (w : Str) : Bool := decide (w = "red") || decide (w = "blue")
def lastW (ws : List Str) : Str := ws.getLastD ""
def at0 (ws : List Str) (i : Nat) : Str := ws.getD i ""
def known (w : Str) : Bool := decide (w = "?") || numOk 1000000000000000000 w
def isTurnW (ws : List Str) : Bool := decide (ws = [Str.ofString "turn"])
def hasW (ws : List Str) : Bool := decide (ws.length = 3) && decide (at0 ws 1 = "has")
def carW (c : Int) (ws : List Str) : Bool := decide (ws.length = 4) && decide (at0 ws 2 = "carried") && numOk c (at0 ws 1)
def rowOk (c : Int) (ws : List Str) : Bool := isTurnW ws || (known (lastW ws) && isRoom (at0 ws 0) && (hasW ws || carW c ws))
def headV (ws : List Str) : Option Int := if decide (ws.length = 2) && decide (at0 ws 0 = "chairs") && numOk 1000000000000000000 (at0 ws 1) then some (valL (tl (at0 ws 1)) : Int) else none
def badFrom (c : Int) : Nat → List (List Str) → Option Nat
  | _, [] => none
  | k, ws :: r => if decide (k = 201) || !rowOk c ws then some k else badFrom c (k + 1) r
def badF (rows : List (List Str)) : Option Nat := match headV (rows.getD 0 []) with
  | none => some 0
  | some c => badFrom c 1 (rows.drop 1)
theorem badFrom_at {c : Int} : ∀ {l : List (List Str)} {k i : Nat} {ws : List Str}, (∀ j ws, j < i → l[j]? = some ws → ¬ (k + j = 201) ∧ rowOk c ws = true) → l[i]? = some ws → (k + i = 201 ∨ rowOk c ws = false) → badFrom c k l = some (k + i)
  | [], _, _, _, _, e, _ => by simp at e
  | w :: l, k, 0, ws, _, e, h => by
    have e' : w = ws := Option.some.inj e
    subst e'
    unfold badFrom
    rw [if_pos]
    · rfl
    · rcases h with h | h
      · rw [decide_eq_true (show k = 201 by omega)]
        rfl
      · rw [h, Bool.not_false, Bool.or_true]
  | w :: l, k, i + 1, ws, hj, e, h => by
    have h0 := hj 0 w (by omega) rfl
    unfold badFrom
    rw [if_neg (by rw [h0.2, decide_eq_false (by have := h0.1; omega)]; simp)]
    rw [badFrom_at (l := l) (i := i) (ws := ws) (fun j v hj2 hv => ?_) (by simpa using e) (by rcases h with h | h; exact .inl (by omega); exact .inr h)]
    · congr 1
      omega
    · have := hj (j + 1) v (by omega) (by simpa using hv)
      exact ⟨by omega, this.2⟩
theorem badFrom_none {c : Int} : ∀ {l : List (List Str)} {k : Nat}, (∀ j ws, l[j]? = some ws → ¬ (k + j = 201) ∧ rowOk c ws = true) → badFrom c k l = none
  | [], _, _ => rfl
  | w :: l, k, hj => by
    have h0 := hj 0 w rfl
    unfold badFrom
    rw [if_neg (by rw [h0.2, decide_eq_false (by have := h0.1; omega)]; simp)]
    exact badFrom_none fun j v hv => by
      have := hj (j + 1) v (by simpa using hv)
      exact ⟨by omega, this.2⟩
theorem badFrom_rep {c : Int} : ∀ {n k : Nat}, k ≤ 201 → badFrom c k (List.replicate n ["turn"]) = if 201 < k + n then some 201 else none
  | 0, k, h => by
    rw [if_neg (by omega)]
    rfl
  | n + 1, k, h => by
    rw [List.replicate_succ]
    unfold badFrom
    have ht : rowOk c ["turn"] = true := by
      unfold rowOk
      rw [show isTurnW ["turn"] = true from decide_eq_true rfl]
      rfl
    by_cases e : k = 201
    · subst e
      rw [if_pos (by rw [decide_eq_true rfl]; rfl), if_pos (by omega)]
    · rw [if_neg (by rw [ht, decide_eq_false e]; decide), badFrom_rep (by omega)]
      by_cases q : 201 < k + (n + 1)
      · rw [if_pos q, if_pos (by omega)]
      · rw [if_neg q, if_neg (by omega)]
/-! ### splitting and joining -/
abbrev lines (t : Str) : List Str := Txt.split t "\n"
abbrev wordsB (t : Str) : List Str := Txt.split t " "
abbrev rowsT (t : Str) : List (List Str) := (lines t).map wordsB
def tot (l : List Str) : Nat := (l.map fun x => x.length + 1).sum
theorem tot_append (a b : List Str) : tot (a ++ b) = tot a + tot b := by
  unfold tot
  rw [List.map_append, List.sum_append]
theorem tot_cons (a : Str) (b : List Str) : tot (a :: b) = a.length + 1 + tot b := by
  unfold tot
  rw [List.map_cons]; rw [List.sum_cons]
theorem tot_take_le (l : List Str) (n : Nat) : tot (l.take n) + tot (l.drop n) = tot l := by
  rw [← tot_append, List.take_append_drop]
theorem tot_mem {l : List Str} {x : Str} (h : x ∈ l) : x.length + 1 ≤ tot l := by
  induction l with
  | nil => cases h
  | cons a l ih =>
    rw [tot_cons]
    rcases (List.mem_cons.mp h) with rfl | h
    · omega
    · have := ih h
      omega
theorem tot_len (l : List Str) : l.length ≤ tot l := by
  induction l with
  | nil => exact Nat.zero_le _
  | cons a l ih =>
    rw [tot_cons, List.length_cons]
    omega
def totL (l : List (List Nat)) : Nat := (l.map fun x => x.length + 1).sum
theorem tot_tl (l : List Str) : tot l = totL (l.map tl) := by
  unfold tot totL
  rw [List.map_map]
  exact congrArg List.sum (List.map_congr_left fun x _ => (by rw [Function.comp, len_tl]))
theorem spl_tot (s : Nat) : ∀ (l acc : List Nat), totL (spl [s] 0 acc l) = acc.length + l.length + 1
  | [], acc => by
    rw [spl_nil]
    rfl
  | c :: r, acc => by
    by_cases h : pre [s] (c :: r) = true
    · rw [spl_hit h]
      show (acc.length + 1) + totL (spl [s] 0 [] r) = _
      rw [spl_tot s r [], List.length_nil, List.length_cons]
      omega
    · have h' : pre [s] (c :: r) = false := by simpa using h
      rw [spl_miss h', spl_tot s r, List.length_append, List.length_cons, List.length_cons, List.length_nil]
      omega
theorem spl_ne (S : List Nat) : ∀ (l acc : List Nat), spl S 0 acc l ≠ []
  | [], acc => by
    rw [spl_nil]
    simp
  | c :: r, acc => by
    by_cases h : pre S (c :: r) = true
    · rw [spl_hit h]
      simp
    · have h' : pre S (c :: r) = false := by simpa using h
      rw [spl_miss h']
      exact spl_ne S r _
theorem tl_nl : tl "\n" = [10] := by decide +kernel
theorem tl_sp : tl " " = [32] := by decide +kernel
theorem split_tot {t y : Str} {s : Nat} (hy : tl y = [s]) (hk : y.cps.all (· < 256) = true) : tot (Txt.split t y) = t.length + 1 ∧ Txt.split t y ≠ [] := by
  have e := split_spl t y (by rw [hy]; simp) (kind_ok hk)
  refine ⟨?_, fun z => ?_⟩
  · rw [tot_tl, e, hy, spl_tot, List.length_nil, len_tl]
    omega
  · rw [z, hy] at e
    exact spl_ne [s] (tl t) [] e.symm
theorem lines_tot (t : Str) : tot (lines t) = t.length + 1 ∧ lines t ≠ [] := split_tot tl_nl (by decide +kernel)
theorem words_tot (t : Str) : tot (wordsB t) = t.length + 1 ∧ wordsB t ≠ [] := split_tot tl_sp (by decide +kernel)
theorem sum_len (ys : List Str) : (ys.map (·.length)).sum + ys.length = tot ys := by
  induction ys with
  | nil => rfl
  | cons a l ih =>
    rw [tot_cons, List.map_cons, List.sum_cons, List.length_cons]
    omega
theorem join_len_le {y : Str} (hy : y.length = 1) : ∀ (l : List Str), (Txt.join y l).length ≤ tot l := by
  intro l
  rw [join_eq]
  have : ∀ l : List (List Nat), (joinL (tl y) l).length ≤ totL l := by
    intro l
    induction l with
    | nil => exact Nat.zero_le _
    | cons p r ih =>
      cases r with
      | nil => exact Nat.le_add_right _ _
      | cons q r =>
        show (p ++ (tl y ++ joinL (tl y) (q :: r))).length ≤ (p.length + 1) + totL (q :: r)
        rw [List.length_append, List.length_append, ← len_tl, hy]
        omega
  rw [len_tl, tl_join, tot_tl]
  exact this _
end Cc

set_option maxHeartbeats 1200000
/-! Own rule: for i, x in enumerate(list, start=k). -/
namespace Cc
open PySem PySem.Spec PyProof.Rows L2
theorem next_enumL_end {prog : Program} {w : World} {A : Around} {Ez : Value → Shared → Prop} {s : Shared} {e it t : Addr} {i : Nat} {items : Array Value} {c : Int} {olz : Value} {Qz : Option Value → Shared → Prop} (kx : items[i]? = none)
    (kh : A.in1.handled = none) (ke : IsEnum s.heap e it c olz) (kit : s.heap.IsListIter it t i) (ht : s.heap.IsList t items)
    (hQ : ∀ h', Heap.ExtBut it s.heap h' → Qz none { s with heap := h' }) : wpAny (model prog w) A (pyNext (.ref e)) Qz Ez s := by
  have kT : s.TypeIs (.ref e) "enumerate" := ⟨_, ke, rfl⟩
  unfold pyNext
  refine wpAny_bind (wpAny_attempt (wpAny_callSpecial?_slot (name := Str.ofString "__next__") kT F.slot_enumerate_next
    (wpAny_call_entry F.slot_enumerate_next kT F.entry_enumerate_next ?_ (F.args_enumerate_next_1 _))))
  show wpAny _ _ (field (Value.ref e) 2 >>= _) _ _ s
  refine wpAny_bind (wpAny_field ke rfl (x := .ref it) rfl ?_)
  refine wpAny_bind (wpAny_nextOf_list_end kh kit ht kx fun h' x ke' hx' => ?_)
  obtain ⟨o, ko, kc⟩ := hx'
  refine wpAny_bind (wpAny_isInstance (T := "StopIteration") (b := true) ⟨o, ko, kc⟩ isSubtype_stop ?_)
  exact wpAny_pure (hQ _ ke')
/-- the list at a, each item in a fresh pair with the count from k on -/
def IteS (K : PySem.W.Frag) (a : Addr) (k : Int) : It :=
  ⟨fun i Hh => ∃ (xs : List V) (x : V), SqL K Hh a xs ∧ xs[i]? = some x, fun i Hh v H' => ∃ T x, v = .ref T ∧ Hh T = none ∧ H' = upd Hh T (.tup [.int (k + (i : Nat)), x]) ∧ ∀ xs, SqL K Hh a xs → xs[i]? = some x, fun i Hh => ∃ xs : List V, SqL K Hh a xs ∧ xs.length ≤ i⟩
theorem turn_enumS {P : Program} {w : World} {K : PySem.W.Frag} {elts : List Expr} {kk : Nat} {tpos : Pos} (a e it : Addr) (k : Int) :
    Turn P w K (.Tuple elts kk tpos) (IteS K a k) [e, it] e (fun i h => (∃ olz, IsEnum h e it (k + ((i : Nat) : Int)) olz) ∧ h.IsListIter it a i ∧ e ≠ it ∧ a ≠ e ∧ a ≠ it) where
  mem := by simp
  obj := fun i h st b kb => by
    obtain ⟨⟨olz, ke⟩, ⟨o, ko, kc, kd⟩, _⟩ := st
    have ee : b = e ∨ b = it := by simpa using kb
    rcases ee with z | z
    · rw [z]; exact ⟨_, ke, fun v qz => nomatch qz⟩
    · rw [z]; exact ⟨o, ko, fun v qz => by rw [kd] at qz; cases qz⟩
  keep := fun i h h' st k => let ⟨⟨olz, ke⟩, hi, kne⟩ := st; ⟨⟨olz, k e (by simp) _ ke⟩, hi.at fun o qz => k it (by simp) o qz, kne⟩
  item := by
    intro X kP kw kK kc i pz s sg Hh Ez J kf st kg
    subst kP kw kK
    obtain ⟨⟨olz, ke⟩, kit, kne, kae, kai⟩ := st
    obtain ⟨xs, x, kq, kx⟩ := kg
    obtain ⟨vz, rw1, p, kz⟩ := J.list kq
    have kel : e < s.heap.objs.size := Heap.lt_size ke
    have kil : it < s.heap.objs.size := by obtain ⟨_, qz, _⟩ := kit; exact Heap.lt_size qz
    have hix : i < vz.toArray.size := by
      have := rw1.length
      have h2 := (List.getElem?_eq_some_iff.mp kx).1
      rw [List.size_toArray]
      omega
    have Dz := Draws.list (prog := X.prog) (w := X.w) (A := X.A.in1) (show X.A.in1.handled = none from J.ok.hd kc) it a kai vz.toArray
    refine wpAny_pyNext_enum_itemC Dz ke ⟨kit, p.isList⟩ hix kne (by simp [kne, Ne.symm kae]) fun u h' tk ku ko hit' kT ksz kk => ?_
    have ru : RelV x u := by
      obtain ⟨u2, hu2, r2⟩ := rw1.get kx
      have e3 : u2 = u := by
        have ku' : vz[i]? = some u := by simpa using ku
        exact Option.some.inj (hu2.symm.trans ku')
      exact e3 ▸ r2
    refine ⟨_, rfl, wpAny_letOwnedTupleGo_enum (s := { s with heap := h', toks := tk + 1 }) ko fun h'' ke' sbz => ?_⟩
    have kT2 : h''.get? s.heap.objs.size = some { cls := .type "tuple", data := .seq #[.int (k + (i : Nat)) tk, u] } := (sbz.2 _ (Nat.ne_of_gt kel)).trans kT
    have nw : ObjOk X.prog X.w (upd Hh s.heap.objs.size (.tup [.int (k + (i : Nat)), x])) h'' s.heap.objs.size (.tup [.int (k + (i : Nat)), x]) :=
      ⟨by show 2 ≤ sizeLine; decide, [.int (k + (i : Nat)) tk, u], .cons ⟨_, rfl⟩ (.cons ru .nil), ⟨_, kT2, rfl, _, rfl⟩⟩
    have J1 : Inv X pz sg (upd Hh s.heap.objs.size (.tup [.int (k + (i : Nat)), x])) { s with heap := h'', toks := tk + 1 } :=
      J.turnedNew (ch := [e, it]) (fun b ob kb qz => (sbz.2 b (fun z => kb (by simp [z]))).trans (kk b ob (fun z => kb (by simp [z])) (fun z => kb (by simp [z])) qz)) kf (Nat.le_refl _) nw
    refine ⟨.ref s.heap.objs.size, _, J1, rfl, ⟨_, x, rfl, J.hok.fresh (Nat.le_refl _), rfl, fun ys hy => by rw [J.list_inj hy kq]; exact kx⟩, ⟨⟨u, ?_⟩, hit'.1.at fun o qz => (sbz.2 it (Ne.symm kne)).trans qz, kne, kae, kai⟩, fun b kb => ?_⟩
    · have e1 : k + (((i + 1 : Nat)) : Int) = k + (i : Int) + 1 := by omega
      rw [e1]; exact ke'
    · have kb' : b < s.heap.objs.size := by
        have ee : b = e ∨ b = it := by simpa using kb
        rcases ee with z | z
        · rw [z]; exact kel
        · rw [z]; exact kil
      rw [upd_ne (Nat.ne_of_lt kb')]
      exact (kf b kb).1
  done := by
    intro X kP kw kK kc i pz s sg Hh Ez J kf st kg
    subst kP kw kK
    obtain ⟨⟨olz, ke⟩, kit, kne, kae, kai⟩ := st
    obtain ⟨xs, kq, kx⟩ := kg
    obtain ⟨vz, rw1, p, kz⟩ := J.list kq
    obtain ⟨f0, f1, f2, f3, f4, f5⟩ := kf it (by simp)
    have hl := rw1.length
    exact next_enumL_end (by simp; omega) (show X.A.in1.handled = none from J.ok.hd kc) ke kit p.isList fun h' eb => ⟨rfl, J.turned (t' := s.toks) (fun b o kb qz => eb b o kb qz) f0 f1 f3 f4 f5⟩
  self := fun A i s Qz Ez st h => let ⟨⟨_, ke⟩, _⟩ := st; wpAny_pyIter_enum ke h
section
variable {M : Model} {A : Around} {Ez : Value → Shared → Prop} {s : Shared} {env : Env}
theorem callWith_tyK {pos : Pos} {T : String} {e : Expr} {rest : List Expr} {kws : List Keyword} {Qz : Value → Shared → Prop}
    (h : wpAny M A (spliced (backTo pos (starEach (e :: rest) env))) (fun vs s1 => wpAny M A (evalAll ((backToKw pos (keywordEach kws env)).map (·.2)))
      (fun kvs s2 => wpAny M A (call (.type T) vs (((backToKw pos (keywordEach kws env)).filterMap (·.1)).zip kvs)) Qz Ez s2) Ez s1) Ez s)
    (he : backTo pos (starEach (e :: rest) env) = (false, eval e env) :: backTo pos (starEach rest env))
    (kpl : (backTo pos (starEach (e :: rest) env)).any (·.1) = false)
    (kall : (backToKw pos (keywordEach kws env)).all (·.1.isSome) = true)
    (kkw : (backToKw pos (keywordEach kws env)).any (·.1.isNone) = false) :
    wpAny M A (callWith pos (.type T) [] (backTo pos (starEach (e :: rest) env)) (backToKw pos (keywordEach kws env))) Qz Ez s := by
  have h2 : wpAny M A (evalArgs (.type T) true (backTo pos (starEach (e :: rest) env)) (backToKw pos (keywordEach kws env))) (fun a s1 => wpAny M A (call (.type T) ([] ++ a.pos) a.kw) Qz Ez s1) Ez s := by
    rw [he] at h ⊢
    exact PyProof.Rows.evalArgs_kwB kall h
  unfold callWith
  refine wpAny_bind (wpAny_holding (wpAny_mono h2 (fun a s1 h1 => wpAny_bind (wpAny_standAt ?_)) fun _ _ x => x))
  simp only [kpl, kkw, Bool.or_false]
  refine wpAny_bind (wpAny_pure (?_))
  exact wpAny_bind (wpAny_mono h1 (fun r s2 hr => wpAny_bind (wpAny_holding (wpAny_point (wpAny_pure hr)))) fun _ _ x => x)
end
def iEnumS (K : PySem.W.Frag) (ta tk : TA) : TI := fun sg Hh R => ta sg Hh fun vs H1 => tk sg H1 fun zs H2 => ∃ a xs k, vs = [.ref a] ∧ zs = [.int k] ∧ 0 ≤ k ∧ k < 1000 ∧ SqL K H2 a xs ∧ R (IteS K a k) H2
theorem pi_enumS {X : Cx} {e : Expr} {kws : List Keyword} {ta tk : TA} {p pos tpos : Pos} {elts : List Expr} {kk : Nat} (kg : Gl X "enumerate") (km : X.mg "enumerate" = none) (ka : PA X [e] ta) (kw : PK X kws tk)
    (he : backTo pos (starEach [e] X.env) = (false, eval e X.env) :: backTo pos (starEach [] X.env) := by rfl) (hpl : (backTo pos (starEach [e] X.env)).any (·.1) = false := by rfl)
    (hall : (backToKw pos (keywordEach kws X.env)).all (·.1.isSome) = true := by rfl) (hnone : (backToKw pos (keywordEach kws X.env)).any (·.1.isNone) = false := by rfl) (hks : (backToKw pos (keywordEach kws X.env)).filterMap (·.1) = [Str.ofString "start"] := by rfl) :
    PI X (.Tuple elts kk tpos) (.Call (.Name "enumerate" p) [e] kws pos) (iEnumS X.K ta tk) := by
  refine ⟨fun pz s sg Hh R J h => ?_⟩
  refine wpAny_Call_Name_kw (ld_blt J kg km boot_enumerate ?_)
  refine callWith_tyK (thn (ka.run pos pz s sg Hh _ J h) fun us s1 ⟨vs, H1, J1, r1, q1⟩ => thn (kw.run pos pz s1 sg H1 _ J1 q1) fun ws s2 ⟨zs, H2, J2, r2, q2⟩ => ?_) he hpl hall hnone
  rw [hks]
  obtain ⟨a, xs, k, ex, ez, k0, k1, kq, qz⟩ := q2
  subst ex ez
  cases r1 with
  | cons r rr =>
    cases rr
    cases r
    cases r2 with
    | cons r' rr' =>
      cases rr'
      obtain ⟨t, rfl⟩ := r'
      obtain ⟨vz, rw1, p', kz⟩ := J2.list kq
      have hal : a < s2.heap.objs.size := p'.lt
      show wpAny (model X.prog X.w) X.A (call (.type "enumerate") [.ref a] [(Str.ofString "start", .int k t)]) _ _ _
      refine enum_begins_start (begins_list a vz.toArray) p'.isList (by omega) (by omega) fun h' ke kit ksz kk => wpAny_pyIter_enum ke ?_
      have J3 : Inv X pz sg H2 { s2 with heap := h' } := J2.kept (t' := s2.toks) kk
      refine ⟨s2.heap.objs.size + 1, [s2.heap.objs.size + 1, s2.heap.objs.size], _, _, H2, rfl, J3, turn_enumS a (s2.heap.objs.size + 1) s2.heap.objs.size k, ⟨⟨.none, by rw [show k + ((0 : Nat) : Int) = k by omega]; exact ke⟩, ⟨_, kit, rfl, rfl⟩, Nat.succ_ne_self _, Nat.ne_of_lt (Nat.lt_succ_of_lt hal), Nat.ne_of_lt hal⟩, fun b kb => ?_, qz⟩
      have ee : b = s2.heap.objs.size + 1 ∨ b = s2.heap.objs.size := by simpa using kb
      have kle : s2.heap.objs.size ≤ b := by
        rcases ee with z | z
        · subst z; exact Nat.le_succ _
        · rw [z]; exact Nat.le_refl _
      exact J2.fpOk kle (J2.hok.fresh kle)
theorem walk_enumS {K : PySem.W.Frag} {a : Addr} {k : Int} {xs : List V} : Walk (IteS K a k) xs.length (fun Hh => SqL K Hh a xs) (YPair (fun i => some (.int (k + (i : Nat)))) (fun i => xs[i]?)) := by
  refine ⟨fun i _ hi qz => ⟨xs, xs[i], qz, by simp [hi]⟩, fun _ qz => ⟨xs, qz, Nat.le_refl _⟩, fun i Hh v H' _ qz y => ?_⟩
  obtain ⟨T, x, g1, g2, g3, g4⟩ := y
  exact ⟨T, .int (k + (i : Nat)), x, g1, g2, g3, rfl, g4 xs qz⟩
end Cc

/-! Own rules for texts; readings of texts. -/
namespace Cc
open PySem PySem.Spec PyProof.Rows L2 TL
section
variable {X : Cx}
def rMulS : R2 := fun x y H Q => ∃ (a : Str) (n : Int), x = .str a ∧ y = .int n ∧ MulOk a n ∧ Q (.str (Txt.mul a n)) H
theorem op_mulS : OpR X (binaryOp .Mult) rMulS := by
  intro pins s σ H x y v u Q I rx ry g
  obtain ⟨i, j, rfl, rfl, hm, q⟩ := g
  obtain ⟨t, rfl⟩ := rx
  obtain ⟨t', rfl⟩ := ry
  exact PySem.SB.mul hm fun t' k => ⟨.str _, H, I.tok _, ⟨_, rfl⟩, q⟩
abbrev rLeS : R2 := fun x y H Q => ∃ i j, x = .str i ∧ y = .str j ∧ Q (.bl (!decide (j.cps.toList < i.cps.toList))) H
abbrev rNotInSg : R2 := fun x y H Q => ∃ (c : Nat) (z : Str), x = .str ⟨#[c]⟩ ∧ y = .str z ∧ Q (.bl (!decide (c ∈ z.cps.toList))) H
abbrev rSplit : V → List V → Hp → VK → Prop := fun x xs H Q => ∃ a b, x = .str a ∧ xs = [.str b] ∧ (b.length == 0) = false ∧ a.length + 2 ≤ sizeLine ∧ rNewStrs (Txt.split a b) H Q
end
end Cc

/-! Nobody carries less: the least price of each place behind the steps. -/
namespace Cc
open PySem PySem.Spec PyProof.Rows L2
def ab (i : Int) : Int := if i < 0 then -i else i
/-- the prices of the places 0, 1, .. when T are carried and pos is the lazy place -/
def priceF (n : Nat) (T pos : Int) : List Int := (List.range n).map fun (g : Nat) => T + ab ((g : Int) - pos)
/-- the place (chairs in the room that was red at first), by the side -/
def placeF (c side r : Int) : Int := if side = 1 then r else c - r
/-- the places that a meeting allows -/
def goodF (c : Int) (first : Bool) (need : Int) (n : Nat) : List Nat := (List.range n).filter fun (g : Nat) => decide (need ≤ if first = true then (0 + (g : Int)) else c - (0 + (g : Int)))
theorem mem_goodF {c : Int} {first : Bool} {need : Int} {n g : Nat} : g ∈ goodF c first need n ↔ g < n ∧ need ≤ (if first = true then (g : Int) else c - g) := by
  unfold goodF
  rw [List.mem_filter, List.mem_range]
  simp
/-- a meeting moves the lazy place to the nearest that it allows -/
theorem place_meet {c side r n : Int} {b : Bool} (hs : side = 1 ∨ side = -1) (h0 : 0 ≤ r) (h1 : r ≤ c) (n0 : 0 ≤ n) (n1 : n ≤ c) (first : Bool) (hf : first = (b == decide (side = 1))) :
    placeF c side (stepF c (.meet b n) r).1 = (if first = true then (if placeF c side r < n then n else placeF c side r) else (if c - n < placeF c side r then c - n else placeF c side r)) ∧
    (stepF c (.meet b n) r).2 = ab (placeF c side (stepF c (.meet b n) r).1 - placeF c side r) := by
  subst hf
  rcases hs with rfl | rfl <;> cases b <;> simp [placeF, stepF, mx, ab] <;> omega
theorem place_in {c side r : Int} (h0 : 0 ≤ r) (h1 : r ≤ c) : 0 ≤ placeF c side r ∧ placeF c side r ≤ c := by
  unfold placeF
  split <;> omega
/-- the new price of a place -/
theorem price_meet {c side r n T : Int} {b : Bool} (hs : side = 1 ∨ side = -1) (h0 : 0 ≤ r) (h1 : r ≤ c) (n0 : 0 ≤ n) (n1 : n ≤ c) (first : Bool) (hf : first = (b == decide (side = 1))) (g : Int) :
    (∃ p : Nat, p ∈ goodF c first n (c + 1).toNat ∧ (T + ab ((p : Int) - placeF c side r)) + ab ((p : Int) - g) = (T + (stepF c (.meet b n) r).2) + ab (g - placeF c side (stepF c (.meet b n) r).1)) ∧
    ∀ p : Nat, p ∈ goodF c first n (c + 1).toNat → (T + (stepF c (.meet b n) r).2) + ab (g - placeF c side (stepF c (.meet b n) r).1) ≤ (T + ab ((p : Int) - placeF c side r)) + ab ((p : Int) - g) := by
  obtain ⟨e1, e2⟩ := place_meet hs h0 h1 n0 n1 first hf
  obtain ⟨p0, p1⟩ := place_in (side := side) h0 h1
  rw [e2]
  generalize placeF c side r = pos at *
  generalize placeF c side (stepF c (.meet b n) r).1 = pos' at *
  have hp0 : 0 ≤ pos' := by
    subst e1
    split <;> split <;> omega
  refine ⟨⟨pos'.toNat, mem_goodF.mpr ⟨?_, ?_⟩, ?_⟩, fun p hp => ?_⟩
  · subst e1
    split <;> split <;> omega
  · have q : ((pos'.toNat : Nat) : Int) = pos' := by omega
    rw [q]
    subst e1
    cases first <;> simp <;> split <;> omega
  · have q : ((pos'.toNat : Nat) : Int) = pos' := by omega
    rw [q]
    unfold ab
    split <;> split <;> split <;> omega
  · obtain ⟨hp1, hp2⟩ := mem_goodF.mp hp
    unfold ab
    cases first
    · simp at e1 hp2
      subst e1
      split <;> split <;> split <;> split <;> omega
    · simp at e1 hp2
      subst e1
      split <;> split <;> split <;> split <;> omega
theorem least_is {ns : List Int} {m v : Int} (h1 : m ∈ ns) (h2 : ∀ x ∈ ns, m ≤ x) (h3 : v ∈ ns) (h4 : ∀ x ∈ ns, v ≤ x) : m = v := Int.le_antisymm (h2 v h3) (h4 m h1)
theorem priceF_get {n : Nat} {T pos : Int} {p : Nat} (h : p < n) : (priceF n T pos)[p]? = some (T + ab ((p : Int) - pos)) := by
  unfold priceF
  rw [List.getElem?_map, List.getElem?_range h]
  rfl
end Cc
namespace Cc
open PySem PySem.Spec PyProof.Rows L2
theorem ifT {c : Bool} {A B : Prop} (hc : c = true) (h : A) : if c = true then A else B := by
  rw [if_pos hc]
  exact h
theorem ifF {c : Bool} {A B : Prop} (hc : c = false) (h : B) : if c = true then A else B := by
  rw [hc, if_neg Bool.false_ne_true]
  exact h
theorem same_new {H H' : Hp} {D : Addr} {o : HO} (h : H D = none) (s : Same H H') : Same H (upd H' D o) := fun b u e => by
  rw [upd_ne (ne_of_none e h)]
  exact s b u e
theorem upd_lst {H : Hp} {D : Addr} {xs ys : List V} (h : xs = ys) : upd H D (.lst xs) D = some (.lst ys) := by
  rw [h]
  exact upd_same
theorem priceF_succ (n : Nat) (T pos : Int) : (priceF (n + 1) T pos).map V.int = (priceF n T pos).map V.int ++ [V.int (T + ab ((n : Int) - pos))] := by
  unfold priceF
  rw [List.range_succ, List.map_append, List.map_append]
  rfl
theorem priceF_len (n : Nat) (T pos : Int) : (priceF n T pos).length = n := by
  simp [priceF]
def goodV (c : Int) (first : Bool) (need : Int) (n : Nat) : List V := (goodF c first need n).map fun (p : Nat) => V.int (0 + (p : Int))
theorem goodV_succ (c : Int) (first : Bool) (need : Int) (n : Nat) (h : (decide (need ≤ if first = true then (0 + (n : Int)) else c - (0 + (n : Int)))) = true) : goodV c first need (n + 1) = goodV c first need n ++ [V.int (0 + (n : Int))] := by
  unfold goodV goodF
  rw [List.range_succ, List.filter_append, List.map_append]
  simp only [List.filter_cons, h, if_true, List.filter_nil, List.map_cons, List.map_nil]
theorem goodV_skip (c : Int) (first : Bool) (need : Int) (n : Nat) (h : (decide (need ≤ if first = true then (0 + (n : Int)) else c - (0 + (n : Int)))) = false) : goodV c first need (n + 1) = goodV c first need n := by
  unfold goodV goodF
  rw [List.range_succ, List.filter_append, List.map_append]
  simp only [List.filter_cons, h, Bool.false_eq_true, if_false, List.filter_nil, List.map_nil, List.append_nil]
theorem goodV_len (c : Int) (first : Bool) (need : Int) (n : Nat) : (goodV c first need n).length ≤ n := by
  unfold goodV goodF
  rw [List.length_map]
  exact Nat.le_trans (List.length_filter_le _ _) (by rw [List.length_range]; exact Nat.le_refl n)
theorem room_turn (b : Bool) : decide (V.str (roomS b) = V.str "turn") = false := by
  cases b <;> decide +kernel
theorem first_eq (b : Bool) (side : Int) : decide (V.bl (decide (V.str (roomS b) = V.str "red")) = V.bl (decide (V.int side = V.int 1))) = (b == decide (side = 1)) := by
  rw [room_eq]
  have e : decide (V.int side = V.int 1) = decide (side = 1) := by
    by_cases h : side = 1
    · subst h; simp
    · rw [decide_eq_false h, decide_eq_false fun z => h (by injection z)]
  rw [e]
  cases b <;> cases decide (side = 1) <;> decide
theorem small_line {i n : Nat} (h : i < n) (hn : n ≤ 2000) : i < sizeLine := by
  rw [sizeLine_eq]
  omega
end Cc

/-! summary: what a plan does to all starts. -/
namespace Cc
open PySem PySem.Spec PyProof.Rows L2
structure Sm where
  low : Int
  high : Int
  extra : Int
  goal : Option Int
  turned : Bool
def goalV : Option Int → V
  | none => .non
  | some g => .int g
/-- how many chairs the room that was red at first may have -/
def allowF (c : Int) (t b : Bool) (n : Int) : Int × Int := if b == t then (0, c - n) else (n, c)
def nearF (g a b : Int) : Int := if b < (if a > g then a else g) then b else (if a > g then a else g)
/-- a meeting behind steps that only keep to a range -/
def narrowF (lo hi a b : Int) : Int × Int × Int × Option Int :=
  if a > hi then (hi, hi, a - hi, some a) else if b < lo then (lo, lo, lo - b, some b) else (mx lo a, (if b < hi then b else hi), 0, none)
def smStep (c : Int) (m : Sm) : Stp → Sm
  | .turn => { m with turned := !m.turned }
  | .meet b n => match m.goal with
    | none => let z := narrowF m.low m.high (allowF c m.turned b n).1 (allowF c m.turned b n).2; { m with low := z.1, high := z.2.1, extra := z.2.2.1, goal := z.2.2.2 }
    | some g => { m with extra := m.extra + ab (nearF g (allowF c m.turned b n).1 (allowF c m.turned b n).2 - g), goal := some (nearF g (allowF c m.turned b n).1 (allowF c m.turned b n).2) }
def smSteps (c : Int) (ss : List Stp) : Sm := ss.foldl (smStep c) ⟨0, c, 0, none, false⟩
theorem smSteps_more (c : Int) (ss : List Stp) (s : Stp) : smSteps c (ss ++ [s]) = smStep c (smSteps c ss) s := by
  unfold smSteps
  rw [List.foldl_append]
  rfl
def smEnd (m : Sm) : Sm := if m.low = m.high ∧ m.goal = none then { m with goal := some m.low } else m
def sideF (t : Bool) : Int := if t then -1 else 1
/-- what a summary says of a start, of the carried and the place -/
structure SmOk (c : Int) (m : Sm) : Prop where
  l0 : 0 ≤ m.low
  lh : m.low ≤ m.high
  h1 : m.high ≤ c
  g : ∀ z, m.goal = some z → 0 ≤ z ∧ z ≤ c
  e : m.goal = none → m.extra = 0
def distF (lo hi x : Int) : Int := if x < lo then lo - x else if hi < x then x - hi else 0
def clampF (lo hi x : Int) : Int := if x < lo then lo else if hi < x then hi else x
def SmSays (m : Sm) (x total place : Int) : Prop := total = distF m.low m.high x + m.extra ∧ place = (match m.goal with | none => clampF m.low m.high x | some z => z)
theorem says_start (c x : Int) (h0 : 0 ≤ x) (h1 : x ≤ c) : SmOk c ⟨0, c, 0, none, false⟩ ∧ SmSays ⟨0, c, 0, none, false⟩ x 0 (placeF c 1 x) := by
  refine ⟨⟨Int.le_refl 0, by show 0 ≤ c; omega, Int.le_refl c, (fun z h => nomatch h), fun _ => rfl⟩, ?_, ?_⟩
  · show 0 = distF 0 c x + 0
    unfold distF
    split
    · omega
    · split <;> omega
  · show placeF c 1 x = clampF 0 c x
    unfold placeF clampF
    simp
    split
    · omega
    · split <;> omega
theorem smOk_step {c : Int} {m : Sm} {s : Stp} (h : SmOk c m) (hs : s.ok c) : SmOk c (smStep c m s) := by
  obtain ⟨low, high, extra, goal, turned⟩ := m
  obtain ⟨l0, lh, h1, hg, he⟩ := h
  simp only at l0 lh h1 hg he
  cases s with
  | turn => exact ⟨l0, lh, h1, hg, he⟩
  | meet b n =>
    obtain ⟨n0, n1⟩ := hs
    cases goal with
    | none =>
      simp only [smStep, narrowF, allowF, mx]
      cases b <;> cases turned <;> simp <;> (split <;> first
        | (constructor <;> simp <;> omega)
        | (split <;> (constructor <;> simp <;> omega)))
    | some z =>
      have hz := hg z rfl
      simp only [smStep, nearF, allowF]
      refine ⟨l0, lh, h1, fun y hy => ?_, fun q => nomatch q⟩
      simp only [Option.some.injEq] at hy
      subst hy
      cases b <;> cases turned <;> simp <;> split <;> split <;> omega
theorem side_of (t : Bool) : sideF t = 1 ∨ sideF t = -1 := by
  cases t <;> simp [sideF]
theorem narrow_says {lo hi a b x : Int} (h : lo ≤ hi) (hab : a ≤ b) : distF lo hi x + ab (clampF a b (clampF lo hi x) - clampF lo hi x) = distF (narrowF lo hi a b).1 (narrowF lo hi a b).2.1 x + (narrowF lo hi a b).2.2.1 ∧
    clampF a b (clampF lo hi x) = (match (narrowF lo hi a b).2.2.2 with | none => clampF (narrowF lo hi a b).1 (narrowF lo hi a b).2.1 x | some z => z) := by
  unfold narrowF
  by_cases q1 : a > hi
  · rw [if_pos q1]
    simp only [distF, clampF, ab]
    omega
  · rw [if_neg q1]
    by_cases q2 : b < lo
    · rw [if_pos q2]
      simp only [distF, clampF, ab]
      omega
    · rw [if_neg q2]
      simp only [distF, clampF, ab, mx]
      omega
theorem near_is {g a b : Int} (hab : a ≤ b) : nearF g a b = clampF a b g := by
  unfold nearF clampF
  omega
/-- a meeting moves the place to the nearest that it allows -/
theorem place_allow {c r n : Int} {b t : Bool} (r0 : 0 ≤ r) (r1 : r ≤ c) (n0 : 0 ≤ n) (n1 : n ≤ c) :
    placeF c (sideF t) (stepF c (.meet b n) r).1 = clampF (allowF c t b n).1 (allowF c t b n).2 (placeF c (sideF t) r) ∧ (stepF c (.meet b n) r).2 = ab (placeF c (sideF t) (stepF c (.meet b n) r).1 - placeF c (sideF t) r) ∧ (allowF c t b n).1 ≤ (allowF c t b n).2 := by
  cases b <;> cases t <;> simp [placeF, sideF, stepF, clampF, allowF, mx, ab] <;> omega
theorem says_step {c : Int} {m : Sm} {s : Stp} {x r total : Int} (ok : SmOk c m) (hs : s.ok c) (r0 : 0 ≤ r) (r1 : r ≤ c) (h : SmSays m x total (placeF c (sideF m.turned) r)) :
    SmSays (smStep c m s) x (total + (stepF c s r).2) (placeF c (sideF (smStep c m s).turned) (stepF c s r).1) := by
  obtain ⟨low, high, extra, goal, turned⟩ := m
  obtain ⟨l0, lh, hc1, hg, he⟩ := ok
  simp only at l0 lh hc1 hg he
  obtain ⟨e1, e2⟩ := h
  simp only at e1 e2
  cases s with
  | turn =>
    refine ⟨?_, ?_⟩
    · show total + 0 = distF low high x + extra
      omega
    · refine Eq.trans ?_ e2
      show placeF c (sideF (!turned)) (c - r) = placeF c (sideF turned) r
      cases turned <;> simp [placeF, sideF] <;> omega
  | meet b n =>
    obtain ⟨n0, n1⟩ := hs
    obtain ⟨f1, f2, f3⟩ := place_allow (c := c) (b := b) (t := turned) r0 r1 n0 n1
    cases goal with
    | none =>
      have he0 := he rfl
      subst he0
      simp only at e2
      obtain ⟨g1, g2⟩ := narrow_says (lo := low) (hi := high) (a := (allowF c turned b n).1) (b := (allowF c turned b n).2) (x := x) lh f3
      refine ⟨?_, ?_⟩
      · refine Eq.trans ?_ g1
        rw [f2, f1, e2, e1, Int.add_zero]
      · refine Eq.trans ?_ g2
        show placeF c (sideF turned) (stepF c (.meet b n) r).1 = _
        rw [f1, e2]
    | some z =>
      simp only at e2
      refine ⟨?_, ?_⟩
      · show total + (stepF c (.meet b n) r).2 = distF low high x + (extra + ab (nearF z (allowF c turned b n).1 (allowF c turned b n).2 - z))
        rw [near_is f3, f2, f1, e2, e1, Int.add_assoc]
      · show placeF c (sideF turned) (stepF c (.meet b n) r).1 = nearF z (allowF c turned b n).1 (allowF c turned b n).2
        rw [near_is f3, f1, e2]
theorem snoc_ind {α : Type} {M : List α → Prop} (h0 : M []) (h1 : ∀ l a, M l → M (l ++ [a])) (l : List α) : M l := by
  have q : ∀ k : List α, M k.reverse := fun k => by
    induction k with
    | nil => exact h0
    | cons a k ih =>
      rw [List.reverse_cons]
      exact h1 _ a ih
  have z := q l.reverse
  rw [List.reverse_reverse] at z
  exact z
/-- behind all steps -/
theorem smSteps_says {c x : Int} (x0 : 0 ≤ x) (x1 : x ≤ c) (ss : List Stp) : (∀ s ∈ ss, s.ok c) → SmOk c (smSteps c ss) ∧ SmSays (smSteps c ss) x (stepsF c ss (x, 0)).2 (placeF c (sideF (smSteps c ss).turned) (stepsF c ss (x, 0)).1) := by
  refine snoc_ind (M := fun ss => (∀ s ∈ ss, s.ok c) → SmOk c (smSteps c ss) ∧ SmSays (smSteps c ss) x (stepsF c ss (x, 0)).2 (placeF c (sideF (smSteps c ss).turned) (stepsF c ss (x, 0)).1)) (fun _ => says_start c x x0 x1) (fun us s ih hs => ?_) ss
  have hd : ∀ s ∈ us, s.ok c := fun z h => hs z (List.mem_append_left _ h)
  obtain ⟨ok, sy⟩ := ih hd
  obtain ⟨r0, r1, _⟩ := stepsF_in (c := c) (ss := us) (r := x) (t := 0) hd x0 x1 (Int.le_refl 0)
  have hg := hs s (List.mem_append_right _ List.mem_cons_self)
  rw [smSteps_more, stepsF_one]
  exact ⟨smOk_step ok hg, says_step ok hg r0 r1 sy⟩
theorem smEnd_says {c : Int} {m : Sm} {x total place : Int} (ok : SmOk c m) (h : SmSays m x total place) : SmOk c (smEnd m) ∧ SmSays (smEnd m) x total place ∧ ((smEnd m).low = (smEnd m).high → (smEnd m).goal ≠ none) ∧ (smEnd m).turned = m.turned := by
  obtain ⟨low, high, extra, goal, turned⟩ := m
  obtain ⟨l0, lh, hc1, hg, he⟩ := ok
  simp only at l0 lh hc1 hg he
  obtain ⟨e1, e2⟩ := h
  simp only at e1 e2
  unfold smEnd
  by_cases q : low = high ∧ goal = none
  · simp only [q, and_self, if_true]
    obtain ⟨q1, q2⟩ := q
    subst q1 q2
    simp only at e2
    refine ⟨⟨l0, Int.le_refl _, hc1, fun z hz => ?_, fun h => nomatch h⟩, ⟨e1, ?_⟩, (fun _ h => nomatch h), by first | rfl | trivial⟩
    · cases hz
      exact ⟨l0, hc1⟩
    · rw [e2]
      show clampF low low x = low
      unfold clampF
      omega
  · simp only [q, if_false]
    exact ⟨⟨l0, lh, hc1, hg, he⟩, ⟨e1, e2⟩, fun h1 h2 => q ⟨h1, h2⟩, by first | rfl | trivial⟩
/-- the number of turns -/
def turnsF (ss : List Stp) : Nat := (ss.filter fun s => match s with | .turn => true | .meet _ _ => false).length
theorem turned_is (c : Int) (ss : List Stp) : (smSteps c ss).turned = decide (turnsF ss % 2 = 1) := by
  refine snoc_ind (M := fun ss => (smSteps c ss).turned = decide (turnsF ss % 2 = 1)) rfl (fun us s ih => ?_) ss
  rw [smSteps_more]
  have ef : turnsF (us ++ [s]) = turnsF us + (match s with | .turn => 1 | .meet _ _ => 0) := by
    unfold turnsF
    rw [List.filter_append, List.length_append]
    cases s <;> rfl
  rw [ef]
  cases s with
  | turn =>
    show (!(smSteps c us).turned) = _
    rw [ih]
    by_cases q : turnsF us % 2 = 1
    · rw [decide_eq_true q, decide_eq_false (by simp only; omega)]
      rfl
    · rw [decide_eq_false q, decide_eq_true (by simp only; omega)]
      rfl
  | meet b z =>
    have et : (smStep c (smSteps c us) (.meet b z)).turned = (smSteps c us).turned := by
      unfold smStep
      cases (smSteps c us).goal <;> rfl
    rw [et, ih]
    rfl
end Cc

/-! Numbers that may be missing; words that are integers. -/
namespace Cc
open PySem PySem.Spec PyProof.Rows L2 TL
def spIsWholeO : Sp := fun vs H Q _ => ∃ o : Option Int, vs = [goalV o] ∧ Q (.bl o.isSome) H
def spIsNumO : Sp := fun vs H Q _ => ∃ (o : Option Int) (m : Int), vs = [goalV o, .int 0, .int m] ∧ Q (.bl (inR m o)) H
def spIntIn : Sp := fun vs H Q _ => ∃ x : Str, vs = [.str x] ∧ x.length ≤ 600 ∧ ∀ H', Same H H' → Q (goalV (intL (tl x))) H'
def undash : List Nat → List Nat
  | 45 :: r => r
  | l => l
theorem tl_dash : tl "-" = [45] := by decide +kernel
theorem tl_undash (x : Str) : tl (Txt.removeprefix x "-") = undash (tl x) := by
  unfold Txt.removeprefix Txt.affix
  have hl : Str.length "-" = 1 := by decide +kernel
  have e : Builtin.Str.subAt x "-" 0 = pre (tl "-") ((tl x).drop 0) := by
    rw [PySem.StrLaws.subAt_eq, hl]
    unfold pre
    rw [tl_dash]
    rfl
  rw [e, tl_dash, List.drop_zero, hl]
  cases h : tl x with
  | nil =>
    show tl (match (if pre [45] [] then some (1, x.length) else none) with | some (i, j) => Builtin.Str.strSub x i j | none => x) = _
    rw [if_neg (by decide)]
    exact h
  | cons c r =>
    by_cases hc : c = 45
    · subst hc
      rw [if_pos (by show ((45 :: r).take 1 == [45]) = true; rfl)]
      have hx : x.length = r.length + 1 := by rw [len_tl, h]; rfl
      show tl (if (x.length - 1 == x.length) = true then x else Builtin.Str.strSub x 1 x.length) = r
      rw [if_neg (by rw [beq_iff_eq]; omega), tl_strSub_end, h]
      rfl
    · have hp : pre [45] (c :: r) = false := pre_of_head [] r hc
      rw [hp, if_neg (by decide)]
      show tl x = undash (c :: r)
      rw [h]
      unfold undash
      split
      · rename_i e
        injection e with e1 e2
        exact absurd e1 hc
      · rfl
def intD (l L : List Nat) : Option Int := if (L.isEmpty || !digs L) = true then none else if L.head? = some 48 ∧ l ≠ [48] then none else if L = l then some (valL L : Int) else some (-(valL L : Int))
theorem intL_D (l : List Nat) : intL l = intD l (undash l) := by
  by_cases hd : ∃ r, l = 45 :: r
  · obtain ⟨r, rfl⟩ := hd
    have h0 : natOk (45 :: r) = false := by
      unfold natOk
      rw [digs_cons]
      simp
    unfold intL
    rw [h0, if_neg (by decide)]
    show (if natOk r && !(r == [48]) then some (-(valL r : Int)) else none) = intD (45 :: r) r
    unfold intD natOk
    cases r with
    | nil => rfl
    | cons c r =>
      have hne : (c :: r) ≠ 45 :: (c :: r) := fun z => by
        have := congrArg List.length z
        simp at this
      rw [if_neg hne]
      cases hg : digs (c :: r) with
      | false => simp
      | true =>
        by_cases h48 : c = 48
        · subst h48
          cases r <;> simp
        · have h1 : ((c :: r) == [48]) = false := by simp [h48]
          rw [h1]
          simp [h48]
  · have hu : undash l = l := by
      unfold undash
      split
      · rename_i r
        exact absurd ⟨r, rfl⟩ hd
      · rfl
    rw [hu]
    have hm : intL l = if natOk l = true then some (valL l : Int) else none := by
      unfold intL
      by_cases c : natOk l = true
      · rw [if_pos c, if_pos c]
      · rw [if_neg c, if_neg c]
        split
        · rename_i r
          exact absurd ⟨r, rfl⟩ hd
        · rfl
    rw [hm]
    unfold intD
    rw [if_pos rfl]
    unfold natOk
    cases l with
    | nil => rfl
    | cons c r =>
      cases hg : digs (c :: r) with
      | false => simp
      | true =>
        by_cases h48 : c = 48
        · subst h48
          cases r <;> simp
        · simp [h48]
theorem sign_in (c : Nat) : decide (c ∈ (Str.ofString "0123456789").cps.toList) = decide (48 ≤ c ∧ c ≤ 57) := by
  have e : ((Str.ofString "0123456789").cps.toList) = [48, 49, 50, 51, 52, 53, 54, 55, 56, 57] := by decide +kernel
  rw [e]
  refine decide_eq_decide.mpr ?_
  simp only [List.mem_cons, List.not_mem_nil, or_false]
  omega
def offL (l : List Nat) : List Bool := l.map fun c => !decide (48 ≤ c ∧ c ≤ 57)
theorem offL_any (l : List Nat) : (offL l).any id = !digs l := by
  unfold offL digs
  induction l with
  | nil => rfl
  | cons c l ih =>
    rw [List.map_cons, List.any_cons, List.all_cons, ih, Bool.not_and]
    rfl
theorem val_snoc (l : List Nat) (c : Nat) : valL (l ++ [c]) = valL l * 10 + (c - 48) := by
  show (l ++ [c]).foldl (fun acc c => acc * 10 + (c - 48)) 0 = _
  rw [List.foldl_append]
  rfl
theorem digs_mem {l : List Nat} (h : digs l = true) : ∀ c ∈ l, 48 ≤ c ∧ c ≤ 57 := fun c hc => of_decide_eq_true (List.all_eq_true.mp h c hc)
theorem digit_int {c : Nat} (h : 48 ≤ c ∧ c ≤ 57) : PySem.intText? ⟨#[c]⟩ = some (((c - 48 : Nat) : Int)) := by
  have e := PySem.intText_digits (x := ⟨#[c]⟩) (show NumText.AllDigits [c] from fun d hd => by rw [List.mem_singleton.mp hd]; exact h) (by simp) (by show 1 ≤ 4300; decide)
  rw [e]
  show some (((([c] : List Nat).foldl (fun acc c => acc * 10 + (c - 48)) 0 : Nat) : Int)) = _
  simp
theorem cps_get (z : Str) (i : Nat) : z.cps[i]? = (tl z)[i]? := by
  show _ = z.cps.toList[i]?
  rw [Array.getElem?_toList]
theorem str_ne {a b : Str} : decide (V.str a = V.str b) = decide (a = b) := decide_eq_decide.mpr ⟨fun z => by injection z, fun z => by rw [z]⟩
theorem str_tl {a b : Str} : a = b ↔ tl a = tl b := ⟨fun z => by rw [z], ext_tl⟩
section
variable {P : Program} {w : World} {K : PySem.W.Frag} {mg : Str → Option Value} {base : Heap}
theorem ok_iswholeO {f : Addr} {fd : FuncData} (F : Fun K "is_whole" "is_whole" sIsWhole f fd) (B : Bt mg) : FnOk P w K mg base CX0 0 f fd ["value"] spIsWholeO := by
  refine fn_low F scIsWhole (fun vs H Q E h => ?_) (fun cdv A outer s H vs Q E h => ?_)
  · obtain ⟨v, rfl, _⟩ := h
    rfl
  · obtain ⟨o, rfl, k⟩ := h
    refine ⟨_, pss_one (ps_ret (pe_and (pe_callB call_isi (by rfl) B.isinstance (by decide +kernel) (pa_cons (pv 0) (pa_cons (pe_bltn (v := .ty "int") (by rfl) B.int (by decide +kernel) rfl) pa_nil)))
      (pe_one (pe_not (pe_callB call_isi (by rfl) B.isinstance (by decide +kernel) (pa_cons (pv 0) (pa_cons (pe_bltn (v := .ty "bool") (by rfl) B.bool (by decide +kernel) rfl) pa_nil))))))), ?_⟩
    cases o with
    | none =>
      refine ⟨_, rfl, _, _, _, _, false, rfl, .ty "int", .base .non, kit_ty (by decide +kernel), false, rfl, ?_⟩
      exact iteF k
    | some v =>
      refine ⟨_, rfl, _, _, _, _, true, rfl, .ty "int", .base (.int v), kit_ty (by decide +kernel), true, rfl, ?_⟩
      exact iteT ⟨_, rfl, _, _, _, _, false, rfl, .ty "bool", .base (.int v), kit_ty (by decide +kernel), false, rfl, k⟩
theorem ok_isnumO {f fW : Addr} {fd : FuncData} (F : Fun K "is_number" "is_number" sIsNum f fd) (W : Dn P w K mg base 0 "is_whole" fW spIsWholeO) : FnOk P w K mg base CX0 1 f fd ["value", "least", "most"] spIsNumO := by
  refine F.ok scIsNum (fun vs H Q E h => ?_) (fun cdv A outer s H vs Q E hr h => ?_)
  · obtain ⟨v, m, rfl, _⟩ := h
    rfl
  · obtain ⟨o, m, rfl, k⟩ := h
    refine ⟨_, pss_one (ps_ret (pe_and (pe_callR W.ok hr rfl W.at_ W.kp pass0 (pa_cons (pv 0) pa_nil))
      (pe_one (pe_chain op_le op_le (pv 1) (pv 0) (pv 2))))), ?_⟩
    cases o with
    | none =>
      refine ⟨_, rfl, none, rfl, false, rfl, ?_⟩
      exact iteF k
    | some v =>
      refine ⟨_, rfl, some v, rfl, true, rfl, ?_⟩
      refine iteT ⟨_, rfl, _, rfl, _, _, rfl, rfl, _, rfl, ?_⟩
      have e0 : inR m (some v) = decide (0 ≤ v ∧ v ≤ m) := rfl
      rw [e0] at k
      by_cases c : 0 ≤ v
      · rw [decide_eq_true c]
        refine iteT ⟨_, rfl, _, _, rfl, rfl, ?_⟩
        have e : decide (v ≤ m) = decide (0 ≤ v ∧ v ≤ m) := by simp [c]
        show Q (V.bl (decide (v ≤ m))) H
        rw [e]
        exact k
      · rw [decide_eq_false c]
        refine iteF ?_
        rw [decide_eq_false (fun z => c z.1)] at k
        exact k
abbrev s_integer_in : Stmt := top 34
abbrev n_integer_in : List Str := ["word", "digits", "number", "digit", "letter"]
theorem sc_integer_in : FnScope n_integer_in ["word"] (defScope s_integer_in) := ⟨rfl, rfl, rfl, by decide +kernel, rfl, by decide +kernel, by decide +kernel⟩
theorem ok_integer_in {f : Addr} {fd : FuncData} (F : Fun K "integer_in" "integer_in" s_integer_in f fd) (B : Bt mg) (g_DIGITS : ∃ u, mg "DIGITS" = some u ∧ RelV (.str "0123456789") u) : FnOk P w K mg base CX0 1 f fd ["word"] spIntIn := by
  refine F.ok sc_integer_in (fun vs H Q E h => ?_) (fun cdv A outer s H vs Q E hr h => ?_)
  · obtain ⟨x, rfl, _⟩ := h
    rfl
  · obtain ⟨x, rfl, hl, kk⟩ := h
    obtain ⟨u_DIGITS, m_DIGITS, r_DIGITS⟩ := g_DIGITS
    refine ⟨_, pss_cons (ps_set (i := 1) sc_integer_in.nd rfl (.inl rfl) (pe_m1 PySem.F.slot_str_removeprefix PySem.F.type_str_removeprefix mt_removeprefix (pv 0) pe_str))
      (C8.pss_cut (ps_if (PW.pt (pw_or (pt_cmpR op_eq (pv 1) pe_str (nomark _)) (pw_or1 (pt_val (pe_callB (cr_any rfl) (by rfl) B.any (by decide +kernel) (pa_cons (pe_lc (own := [("letter", 4)]) (g := gName 4) (tt := tYes) (te := (tOp rNotInSg (tVar 4) (tC (.str "0123456789")))) rfl sc_integer_in.nd (pi_str (pv 1)) (blkOk_by (N := n_integer_in) (sc := defScope s_integer_in) (by decide +kernel)) (fun _ _ _ _ _ => pg_name (i := 4) sc_integer_in.nd rfl (.inl rfl)) (fun _ _ _ _ _ => by exact pts_nil) (fun _ _ _ _ _ => by exact (pe_cmpR op_notIn_sign (pv 4) (pe_glob rfl m_DIGITS r_DIGITS) (by rfl)))) pa_nil))))))
        (pss_one (ps_ret pe_non)) pss_nil)
      (C8.pss_cut (ps_if (PW.pt (pw_and (pt_cmpR op_eq (pe_ix ix_str (pv 1) pe_int (fun _ _ => rfl)) pe_str (nomark _)) (pw_and1 (pt_cmpR op_ne (pv 0) pe_str (nomark _)))))
        (pss_one (ps_ret pe_non)) pss_nil)
      (pss_cons (ps_set (i := 2) sc_integer_in.nd rfl (.inl rfl) pe_int)
      (pss_cons (ps_for PassesOwn.never rfl (pi_str (pv 1)) (pg_name (i := 3) sc_integer_in.nd rfl (.inl rfl))
        (pss_one (ps_set (i := 2) sc_integer_in.nd rfl (.inl rfl) (pe_op op_add (pe_op op_mul (pv 2) pe_int) (pe_callTy call_int_str (by rfl) B.int (by decide +kernel) (pa_cons (pv 3) pa_nil))))))
      (pss_one (ps_ret (pe_ifExp (pt_cmpR op_eq (pv 1) (pv 0) (nomark _)) (pv 2) (pe_un un_neg (pv 2))))))))), ?_⟩
    refine ⟨_, rfl, ⟨x, rfl⟩, x, _, rfl, rfl, Nat.le_trans hl (by decide), ?_⟩
    have eD := tl_undash x
    have e0 := intL_D (tl x)
    rw [← eD] at e0
    have hD : (Txt.removeprefix x "-").length ≤ 600 := by
      have : (tl (Txt.removeprefix x "-")).length ≤ (tl x).length := by
        rw [eD]
        unfold undash
        split
        · rename_i h
          rw [h, List.length_cons]
          omega
        · exact Nat.le_refl _
      rw [len_tl]
      exact Nat.le_trans this (by rw [← len_tl]; exact hl)
    generalize Txt.removeprefix x "-" = D at *
    clear eD
    unfold intD at e0
    refine ⟨fun σ H' => σ = [some (.str x), some (.str D), none, none, none] ∧ Same H H' ∧ (tl D).isEmpty = false ∧ digs (tl D) = true, ?_, ?_⟩
    · refine ⟨_, rfl, rfl, _, rfl, ?_⟩
      by_cases c : tl D = []
      · have eD : D = "" := str_tl.mpr (by rw [c]; decide +kernel)
        refine ifT (by rw [str_ne]; exact decide_eq_true eD) ?_
        have := kk H (Same.refl H)
        rw [e0, c] at this
        exact this
      · have c1 : (tl D).isEmpty = false := by
          cases h : tl D with
          | nil => exact absurd h c
          | cons a b => rfl
        refine ifF (by rw [str_ne]; exact decide_eq_false fun z => c (by rw [z]; decide +kernel)) ⟨_, rfl, D, rfl, fun l hl0 => ?_⟩
        have s0 := same_upd (o := .lst []) hl0
        refine lc_it walk_str (fun i H' => Same H H' ∧ H' l = some (.lst ((offL ((tl D).take i)).map V.bl))) ⟨s0, upd_same⟩ (fun _ _ _ _ => trivial) ?_ ?_
        · rintro i v H1 H2 hi ⟨s1, g1⟩ ⟨rfl, cc, hc, rfl⟩
          rw [cps_get] at hc
          refine ⟨rfl, _, rfl, cc, _, rfl, rfl, _, g1, ?_, same_new hl0 s1, upd_lst ?_⟩
          · rw [List.length_map]
            unfold offL
            rw [List.length_map, List.length_take, ← len_tl, sizeLine_eq]
            omega
          · rw [sign_in, take_more hc]
            unfold offL
            rw [List.map_append, List.map_append]
            rfl
        · rintro H1 ⟨s1, g1⟩
          have ez : (tl D).take D.cps.size = tl D := List.take_of_length_le (by rw [← len_tl]; exact Nat.le_refl _)
          rw [ez] at g1
          refine ⟨l, _, rfl, SqL.of g1, _, rfl, ?_⟩
          rw [offL_any]
          cases hg : digs (tl D) with
          | false =>
            refine iteT ?_
            have := kk H1 s1
            rw [e0, hg, c1] at this
            exact this
          | true => exact iteF ⟨rfl, s1, c1, rfl⟩
    rintro σ H1 ⟨rfl, s1, d1, d2⟩
    rw [d1, d2, if_neg (by decide)] at e0
    obtain ⟨c0, r0, eL⟩ : ∃ c0 r0, tl D = c0 :: r0 := by
      cases h : tl D with
      | nil =>
        rw [h] at d1
        cases d1
      | cons a b => exact ⟨a, b, rfl⟩
    refine ⟨fun σ H' => σ = [some (.str x), some (.str D), none, none, none] ∧ H' = H1 ∧ ¬ ((tl D).head? = some 48 ∧ tl x ≠ [48]), ?_, ?_⟩
    · refine ⟨_, rfl, D, 0, c0, rfl, rfl, Nat.le_trans hD (by decide), (by have e := atI_nat (xs := tl D) (j := 0) (v := c0) (by rw [eL]; rfl); exact e), rfl, _, rfl, ?_⟩
      by_cases h48 : c0 = 48
      · refine ifT (by rw [str_ne, h48]; exact decide_eq_true (str_tl.mpr (by decide +kernel))) ⟨_, rfl, rfl, _, rfl, ?_⟩
        by_cases hx : tl x = [48]
        · exact ifF (by rw [str_ne, decide_eq_true (str_tl.mpr (by rw [hx]; decide +kernel))]; rfl) ⟨rfl, rfl, fun z => z.2 hx⟩
        · refine ifT (by rw [str_ne, decide_eq_false (fun z => hx (by rw [str_tl.mp z]; decide +kernel))]; rfl) ?_
          have := kk H1 s1
          rw [e0, if_pos ⟨by rw [eL, h48]; rfl, hx⟩] at this
          exact this
      · refine ifF (by rw [str_ne]; exact decide_eq_false fun z => h48 (by have := str_tl.mp z; rw [show tl (Str.ofString "0") = [48] by decide +kernel] at this; injection this with this _)) (iteF ⟨rfl, rfl, fun z => h48 (by have := z.1; rw [eL] at this; injection this with this)⟩)
    rintro σ H2 ⟨rfl, rfl, hz⟩
    rw [if_neg hz] at e0
    refine ⟨_, rfl, D, rfl, for_it walk_str (fun i σ H' => ∃ y, σ = [some (.str x), some (.str D), some (.int (valL ((tl D).take i) : Nat)), y, none] ∧ H' = H2) ⟨none, rfl, rfl⟩ (fun _ _ _ _ _ => trivial) ?_ ?_⟩
    · rintro i v σ H3 H4 hi ⟨y, rfl, rfl⟩ ⟨rfl, cc, hc, rfl⟩
      rw [cps_get] at hc
      have hm := digs_mem d2 cc (List.mem_of_getElem? hc)
      refine ⟨_, rfl, _, _, rfl, rfl, .inr ⟨by decide, by decide⟩, _, rfl, _, _, rfl, digit_int hm, (by show 1 ≤ 640; decide), _, _, rfl, rfl, some (.str ⟨#[cc]⟩), ?_, rfl⟩
      rw [take_more hc, val_snoc]
      rfl
    · rintro σ H3 ⟨y, rfl, rfl⟩
      have ez : (tl D).take D.cps.size = tl D := List.take_of_length_le (by rw [← len_tl]; exact Nat.le_refl _)
      rw [ez]
      have kk2 := kk H3 s1
      rw [e0] at kk2
      refine ⟨_, rfl, _, rfl, rfl, _, rfl, ?_⟩
      by_cases hx : D = x
      · rw [if_pos (by rw [hx])] at kk2
        exact ifT (by rw [str_ne]; exact decide_eq_true hx) ⟨_, rfl, kk2⟩
      · rw [if_neg (fun z => hx (ext_tl z))] at kk2
        exact ifF (by rw [str_ne]; exact decide_eq_false hx) ⟨_, rfl, _, rfl, kk2⟩
end
end Cc

namespace Cc
open PySem PySem.Spec PyProof.Rows L2
abbrev sEffect : Stmt := top 23
abbrev sAllow : Stmt := top 24
abbrev sNarrow : Stmt := top 25
abbrev sNear : Stmt := top 26
def smV (m : Sm) : List V := [.int m.low, .int m.high, .int m.extra, goalV m.goal, .bl m.turned]
def spAllow : Sp := fun vs H Q _ => ∃ (v : V) (b t : Bool) (c n : Int), vs = [v, .int c, .bl t] ∧ StepAt H v (.meet b n) ∧ ∀ p H', Same H H' → H' p = some (.tup [.int (allowF c t b n).1, .int (allowF c t b n).2]) → Q (.ref p) H'
def spNarrow : Sp := fun vs H Q _ => ∃ (lo hi a b : Int), vs = [.int lo, .int hi, .int a, .int b] ∧ ∀ p H', Same H H' → H' p = some (.tup [.int (narrowF lo hi a b).1, .int (narrowF lo hi a b).2.1, .int (narrowF lo hi a b).2.2.1, goalV (narrowF lo hi a b).2.2.2]) → Q (.ref p) H'
def spNear : Sp := fun vs H Q _ => ∃ (g a b : Int), vs = [.int g, .int a, .int b] ∧ Q (.int (nearF g a b)) H
def spEffect (K : PySem.W.Frag) : Sp := fun vs H Q _ => ∃ (t : Addr) (ws : List V) (ss : List Stp) (c : Int), vs = [.ref t, .int c] ∧ SqT K H t ws ∧ (∀ H', Same H H' → SqT K H' t ws) ∧ Steps H ws ss ∧ ∀ q H', Same H H' → H' q = some (.tup (smV (smEnd (smSteps c ss)))) → Q (.ref q) H'
section
variable {P : Program} {w : World} {K : PySem.W.Frag} {mg : Str → Option Value} {base : Heap} {C TU pS gS : Addr} {mc : Value}
theorem scAllow : FnScope ["step", "chairs", "turned", "room", "need"] ["step", "chairs", "turned"] (defScope sAllow) := ⟨rfl, rfl, rfl, by decide +kernel, rfl, by decide +kernel, by decide +kernel⟩
theorem bl_eq (a t : Bool) : decide (V.bl a = V.bl t) = (a == t) := by
  cases a <;> cases t <;> decide
theorem ok_allow {f : Addr} {fd : FuncData} (F : Fun K "allowed_range" "allowed_range" sAllow f fd) : FnOk P w K mg base CX0 1 f fd ["step", "chairs", "turned"] spAllow := by
  refine F.ok scAllow (fun vs H Q E h => ?_) (fun cdv A outer s H vs Q E hr h => ?_)
  · obtain ⟨v, b, t, c, n, rfl, _⟩ := h
    rfl
  · obtain ⟨v, b, tt, c, n, rfl, ⟨t, rfl, ht⟩, k⟩ := h
    refine ⟨_, pss_cons (ps_asg (pv 0) (pg_tup rfl (pgs_cons (pg_name (i := 3) scAllow.nd rfl (.inl rfl)) (pgs_cons (pg_name (i := 4) scAllow.nd rfl (.inl rfl)) pgs_nil))))
      (pss_cons (ps_if (pt_cmpR op_eq (pe_cmpR op_eq (pv 3) pe_str (nomark _)) (pv 2) (nomark _)) (pss_one (ps_ret (pe_tup (pa_cons pe_int (pa_cons (pe_op op_sub (pv 1) (pv 4)) pa_nil))))) pss_nil)
      (pss_one (ps_ret (pe_tup (pa_cons (pv 4) (pa_cons (pv 1) pa_nil)))))), ?_⟩
    refine ⟨_, rfl, t, _, rfl, SqT.of ht, rfl, _, _, rfl, _, _, rfl, rfl, ?_⟩
    refine ⟨_, rfl, rfl, _, rfl, rfl, _, rfl, ?_⟩
    have e : decide (V.bl (decide (V.str (roomS b) = V.str "red")) = V.bl tt) = (b == tt) := by rw [room_eq, bl_eq]
    cases hb : (b == tt) with
    | true =>
      have ea : allowF c tt b n = (0, c - n) := by
        unfold allowF
        rw [if_pos hb]
      refine ifT (e.trans hb) ⟨_, rfl, _, rfl, _, _, rfl, rfl, by show 2 ≤ sizeLine; decide, fun p hp => k p _ (same_upd hp) ?_⟩
      rw [ea]
      exact upd_same
    | false =>
      have ea : allowF c tt b n = (n, c) := by
        unfold allowF
        simp [hb]
      refine ifF (e.trans hb) ⟨_, rfl, _, rfl, by show 2 ≤ sizeLine; decide, fun p hp => k p _ (same_upd hp) ?_⟩
      rw [ea]
      exact upd_same
theorem scNarrow : FnScope ["low", "high", "least", "most"] ["low", "high", "least", "most"] (defScope sNarrow) := ⟨rfl, rfl, rfl, by decide +kernel, rfl, by decide +kernel, by decide +kernel⟩
theorem ok_narrow {f : Addr} {fd : FuncData} (F : Fun K "narrowed" "narrowed" sNarrow f fd) (B : Bt mg) : FnOk P w K mg base CX0 1 f fd ["low", "high", "least", "most"] spNarrow := by
  refine F.ok scNarrow (fun vs H Q E h => ?_) (fun cdv A outer s H vs Q E hr h => ?_)
  · obtain ⟨lo, hi, a, b, rfl, _⟩ := h
    rfl
  · obtain ⟨lo, hi, a, b, rfl, k⟩ := h
    refine ⟨_, pss_cons (ps_if (pt_cmpR op_gt (pv 2) (pv 1) (nomark _)) (pss_one (ps_ret (pe_tup (pa_cons (pv 1) (pa_cons (pv 1) (pa_cons (pe_op op_sub (pv 2) (pv 1)) (pa_cons (pv 2) pa_nil))))))) pss_nil)
      (pss_cons (ps_if (pt_cmpR op_lt (pv 3) (pv 0) (nomark _)) (pss_one (ps_ret (pe_tup (pa_cons (pv 0) (pa_cons (pv 0) (pa_cons (pe_op op_sub (pv 0) (pv 3)) (pa_cons (pv 3) pa_nil))))))) pss_nil)
      (pss_one (ps_ret (pe_tup (pa_cons (pe_callB (call_max2 rfl) (by rfl) B.max (by decide +kernel) (pa_cons (pv 0) (pa_cons (pv 2) pa_nil))) (pa_cons (pe_callB (call_min2 rfl) (by rfl) B.min (by decide +kernel) (pa_cons (pv 1) (pa_cons (pv 3) pa_nil))) (pa_cons pe_int (pa_cons pe_non pa_nil)))))))), ?_⟩
    refine ⟨_, rfl, _, rfl, _, _, rfl, rfl, _, rfl, ?_⟩
    by_cases q1 : hi < a
    · refine ifT (decide_eq_true q1) ⟨_, rfl, _, rfl, _, rfl, _, rfl, _, _, rfl, rfl, _, rfl, by show 4 ≤ sizeLine; decide, fun p hp => k p _ (same_upd hp) ?_⟩
      rw [show narrowF lo hi a b = (hi, hi, a - hi, some a) by unfold narrowF; rw [if_pos q1]]
      exact upd_same
    · refine ifF (decide_eq_false q1) ⟨_, rfl, _, rfl, _, _, rfl, rfl, _, rfl, ?_⟩
      by_cases q2 : b < lo
      · refine ifT (decide_eq_true q2) ⟨_, rfl, _, rfl, _, rfl, _, rfl, _, _, rfl, rfl, _, rfl, by show 4 ≤ sizeLine; decide, fun p hp => k p _ (same_upd hp) ?_⟩
        rw [show narrowF lo hi a b = (lo, lo, lo - b, some b) by unfold narrowF; rw [if_neg q1, if_pos q2]]
        exact upd_same
      · refine ifF (decide_eq_false q2) ⟨_, rfl, _, rfl, _, _, rfl, _, rfl, _, rfl, _, _, rfl, by show 4 ≤ sizeLine; decide, fun p hp => k p _ (same_upd hp) ?_⟩
        rw [show narrowF lo hi a b = (mx lo a, (if b < hi then b else hi), 0, none) by unfold narrowF; rw [if_neg q1, if_neg q2]]
        exact upd_same
theorem scNear : FnScope ["number", "least", "most"] ["number", "least", "most"] (defScope sNear) := ⟨rfl, rfl, rfl, by decide +kernel, rfl, by decide +kernel, by decide +kernel⟩
theorem ok_near {f : Addr} {fd : FuncData} (F : Fun K "nearest" "nearest" sNear f fd) (B : Bt mg) : FnOk P w K mg base CX0 1 f fd ["number", "least", "most"] spNear := by
  refine F.ok scNear (fun vs H Q E h => ?_) (fun cdv A outer s H vs Q E hr h => ?_)
  · obtain ⟨g, a, b, rfl, _⟩ := h
    rfl
  · obtain ⟨g, a, b, rfl, k⟩ := h
    refine ⟨_, pss_one (ps_ret (pe_callB (call_min2 rfl) (by rfl) B.min (by decide +kernel) (pa_cons (pe_callB (call_max2 rfl) (by rfl) B.max (by decide +kernel) (pa_cons (pv 0) (pa_cons (pv 1) pa_nil))) (pa_cons (pv 2) pa_nil)))), ?_⟩
    exact ⟨_, rfl, _, rfl, _, _, rfl, _, rfl, _, _, rfl, k⟩
abbrev nEffect : List Str := ["steps", "chairs", "low", "high", "extra", "goal", "turned", "step", "least", "most", "moved"]
theorem scEffect : FnScope nEffect ["steps", "chairs"] (defScope sEffect) := ⟨rfl, rfl, rfl, by decide +kernel, rfl, by decide +kernel, by decide +kernel⟩
theorem ok_effect {f f2 f3 f4 : Addr} {fd : FuncData} (F : Fun K "effect_of" "effect_of" sEffect f fd) (T : Txt K mg C TU pS gS mc) (DA : Dn P w K mg base 1 "allowed_range" f2 spAllow)
    (DN : Dn P w K mg base 1 "narrowed" f3 spNarrow) (DE : Dn P w K mg base 1 "nearest" f4 spNear) : FnOk P w K mg base CX0 2 f fd ["steps", "chairs"] (spEffect K) := by
  refine F.ok scEffect (fun vs H Q E h => ?_) (fun cdv A outer s H vs Q E hr h => ?_)
  · obtain ⟨p, ws, ss, c, rfl, _⟩ := h
    rfl
  · obtain ⟨p, ws, ss, c, rfl, hT, hT2, e3, k⟩ := h
    have r1 : Room 1 _ := hr
    refine ⟨_, pss_cons (ps_asg (pe_tup (pa_cons pe_int (pa_cons (pv 1) (pa_cons pe_int (pa_cons pe_non (pa_cons pe_bl pa_nil)))))) (pg_tup rfl (pgs_cons (pg_name (i := 2) scEffect.nd rfl (.inl rfl)) (pgs_cons (pg_name (i := 3) scEffect.nd rfl (.inl rfl)) (pgs_cons (pg_name (i := 4) scEffect.nd rfl (.inl rfl)) (pgs_cons (pg_name (i := 5) scEffect.nd rfl (.inl rfl)) (pgs_cons (pg_name (i := 6) scEffect.nd rfl (.inl rfl)) pgs_nil)))))))
      (pss_cons (ps_for PassesOwn.never rfl (pi_tup (pv 0)) (pg_name (i := 7) scEffect.nd rfl (.inl rfl))
        (pss_cons (ps_if (pt_cmpR (op_eqD hr.units) (pv 7) (pe_glob (v := .ref TU) rfl T.gT rfl) (nomark _)) (pss_cons (ps_set (i := 6) scEffect.nd rfl (.inl rfl) (pe_not (pv 6))) (pss_one ps_continue)) pss_nil)
        (pss_cons (ps_asg (pe_callR DA.ok r1 rfl DA.at_ DA.kp pass0 (pa_cons (pv 7) (pa_cons (pv 1) (pa_cons (pv 6) pa_nil)))) (pg_tup rfl (pgs_cons (pg_name (i := 8) scEffect.nd rfl (.inl rfl)) (pgs_cons (pg_name (i := 9) scEffect.nd rfl (.inl rfl)) pgs_nil))))
        (pss_one (ps_if (pt_cmpR op_isN (pv 5) pe_non (nomark _))
          (pss_one (ps_asg (pe_callR DN.ok r1 rfl DN.at_ DN.kp pass0 (pa_cons (pv 2) (pa_cons (pv 3) (pa_cons (pv 8) (pa_cons (pv 9) pa_nil))))) (pg_tup rfl (pgs_cons (pg_name (i := 2) scEffect.nd rfl (.inl rfl)) (pgs_cons (pg_name (i := 3) scEffect.nd rfl (.inl rfl)) (pgs_cons (pg_name (i := 4) scEffect.nd rfl (.inl rfl)) (pgs_cons (pg_name (i := 5) scEffect.nd rfl (.inl rfl)) pgs_nil)))))))
          (pss_cons (ps_set (i := 10) scEffect.nd rfl (.inl rfl) (pe_callR DE.ok r1 rfl DE.at_ DE.kp pass0 (pa_cons (pv 5) (pa_cons (pv 8) (pa_cons (pv 9) pa_nil)))))
          (pss_cons (ps_aug (i := 4) scEffect.nd rfl (.inl rfl) (pe_callB call_abs (by rfl) T.b.abs (by decide +kernel) (pa_cons (pe_op op_sub (pv 10) (pv 5)) pa_nil)) ip_add)
          (pss_one (ps_set (i := 5) scEffect.nd rfl (.inl rfl) (pv 10))))))))))
      (pss_cons (ps_if (PW.pt (pw_and (pt_cmpR op_eq (pv 2) (pv 3) (nomark _)) (pw_and1 (pt_cmpR op_isN (pv 5) pe_non (nomark _))))) (pss_one (ps_set (i := 5) scEffect.nd rfl (.inl rfl) (pv 2))) pss_nil)
      (pss_one (ps_ret (pe_tup (pa_cons (pv 2) (pa_cons (pv 3) (pa_cons (pv 4) (pa_cons (pv 5) (pa_cons (pv 6) pa_nil)))))))))), ?_⟩
    refine ⟨_, rfl, by show 5 ≤ sizeLine; decide, fun t5 ht5 => ?_⟩
    have s2 := same_upd (o := .tup [.int 0, .int c, .int 0, .non, .bl false]) ht5
    refine ⟨t5, _, rfl, SqT.of upd_same, rfl, _, _, rfl, _, _, rfl, _, _, rfl, _, _, rfl, _, _, rfl, rfl, ?_⟩
    refine ⟨_, rfl, p, rfl, ⟨_, hT2 _ s2⟩, for_tup (K := K) (a := p) (xs := ws) (fun i σ H' => ∃ (x7 x8 x9 x10 : Option V), σ = [some (.ref p), some (.int c), some (.int (smSteps c (ss.take i)).low), some (.int (smSteps c (ss.take i)).high), some (.int (smSteps c (ss.take i)).extra), some (goalV (smSteps c (ss.take i)).goal), some (.bl (smSteps c (ss.take i)).turned), x7, x8, x9, x10] ∧ Same (upd H t5 (.tup [.int 0, .int c, .int 0, .non, .bl false])) H')
      ⟨none, none, none, none, rfl, Same.refl _⟩ (fun i σ H' _ ⟨_, _, _, _, _, s3⟩ => hT2 _ (s2.trans s3)) ?_ ?_⟩
    · rintro i v σ H2 hi ⟨x7, x8, x9, x10, rfl, s3⟩
      obtain ⟨st, hst, t, rfl, ht0⟩ := e3.get hi
      have ht := s3 _ _ (s2 _ _ ht0)
      have em : smSteps c (ss.take (i + 1)) = smStep c (smSteps c (ss.take i)) st := by rw [take_more hst, smSteps_more]
      generalize smSteps c (ss.take i) = m at *
      obtain ⟨low, high, extra, goal, turned⟩ := m
      cases st with
      | turn =>
        refine ⟨_, rfl, .tuple [.str "turn"], .tuple [.str "turn"], .tup (SqT.of ht) (.cons (.str _) .nil), .tup (T.tT _) (.cons (.str _) .nil), by decide +kernel, by decide +kernel, _, rfl, ?_⟩
        refine ifT eqv_turn ⟨_, rfl, _, rfl, ?_⟩
        refine ⟨some (.ref t), x8, x9, x10, ?_, s3⟩
        rw [em]
        rfl
      | meet bb n =>
        refine ⟨_, rfl, .tuple [.str (roomS bb), .int n], .tuple [.str "turn"], .tup (SqT.of ht) (.cons (.str _) (.cons (.int _) .nil)), .tup (T.tT _) (.cons (.str _) .nil), shaped_meet bb n, by decide +kernel, _, rfl, ?_⟩
        refine ifF (eqv_meet bb n) ⟨_, rfl, _, rfl, _, rfl, _, bb, turned, c, n, rfl, ⟨t, rfl, ht⟩, fun q H3 s4 hq => ?_⟩
        refine ⟨q, _, rfl, SqT.of hq, rfl, _, _, rfl, _, _, rfl, rfl, ?_⟩
        cases goal with
        | none =>
          refine ⟨_, rfl, rfl, _, rfl, ?_⟩
          refine ifT (decide_eq_true rfl) ⟨_, rfl, _, rfl, _, rfl, _, rfl, low, high, _, _, rfl, fun q2 H4 s5 hq2 => ?_⟩
          refine ⟨q2, _, rfl, SqT.of hq2, rfl, _, _, rfl, _, _, rfl, _, _, rfl, _, _, rfl, rfl, ?_⟩
          refine ⟨some (.ref t), some (.int (allowF c turned bb n).1), some (.int (allowF c turned bb n).2), x10, ?_, (s3.trans s4).trans s5⟩
          rw [em]
          rfl
        | some z =>
          refine ⟨_, rfl, rfl, _, rfl, ?_⟩
          refine ifF (by simp [goalV]) ⟨_, rfl, _, rfl, _, rfl, z, _, _, rfl, ?_⟩
          refine ⟨_, rfl, _, rfl, _, rfl, _, _, rfl, rfl, _, rfl, _, _, rfl, rfl, _, rfl, ?_⟩
          refine ⟨some (.ref t), some (.int (allowF c turned bb n).1), some (.int (allowF c turned bb n).2), some (.int (nearF z (allowF c turned bb n).1 (allowF c turned bb n).2)), ?_, s3.trans s4⟩
          rw [em]
          rfl
    · rintro σ H2 ⟨x7, x8, x9, x10, rfl, s3⟩
      rw [e3.length, List.take_length]
      generalize smSteps c ss = m at *
      obtain ⟨low, high, extra, goal, turned⟩ := m
      have fin : ∀ g : Option Int, smEnd ⟨low, high, extra, goal, turned⟩ = ⟨low, high, extra, g, turned⟩ → ∀ q, H2 q = none → Q (.ref q) (upd H2 q (.tup [.int low, .int high, .int extra, goalV g, .bl turned])) := fun g hg q hq => by
        refine k q _ ((s2.trans s3).trans (same_upd hq)) ?_
        rw [hg]
        exact upd_same
      refine ⟨_, rfl, _, rfl, rfl, _, rfl, ?_⟩
      by_cases q1 : low = high
      · refine ifT (by rw [q1]; exact decide_eq_true rfl) ⟨_, rfl, rfl, _, rfl, ?_⟩
        cases goal with
        | none =>
          refine ifT (decide_eq_true rfl) ⟨_, rfl, _, rfl, _, rfl, _, rfl, _, rfl, _, rfl, by show 5 ≤ sizeLine; decide, fun q hq => ?_⟩
          exact fin (some low) (by unfold smEnd; rw [if_pos ⟨q1, rfl⟩]) q hq
        | some z =>
          refine ifF (by simp [goalV]) ⟨_, rfl, _, rfl, _, rfl, _, rfl, _, rfl, by show 5 ≤ sizeLine; decide, fun q hq => ?_⟩
          exact fin (some z) (by unfold smEnd; rw [if_neg (fun h => nomatch h.2)]) q hq
      · refine ifF (decide_eq_false fun h => q1 (by injection h)) ?_
        refine iteF ⟨_, rfl, _, rfl, _, rfl, _, rfl, _, rfl, by show 5 ≤ sizeLine; decide, fun q hq => ?_⟩
        exact fin goal (by unfold smEnd; rw [if_neg (fun h => q1 h.1)]) q hq
end
end Cc

/-! The play of steps one by one; three more rules. -/
namespace Cc
open PySem PySem.Spec PyProof.Rows L2
def carryF (c : Int) : List Stp → Int → List Int
  | [], _ => []
  | s :: ss, r => (stepF c s r).2 :: carryF c ss (stepF c s r).1
theorem stepsF_fst (c : Int) : ∀ (ss : List Stp) (r t u : Int), (stepsF c ss (r, t)).1 = (stepsF c ss (r, u)).1
  | [], _, _, _ => rfl
  | s :: ss, r, t, u => stepsF_fst c ss (stepF c s r).1 _ _
theorem carryF_one (c : Int) (s : Stp) : ∀ (ss : List Stp) (r : Int), carryF c (ss ++ [s]) r = carryF c ss r ++ [(stepF c s (stepsF c ss (r, 0)).1).2]
  | [], r => rfl
  | z :: ss, r => by
    show (stepF c z r).2 :: carryF c (ss ++ [s]) (stepF c z r).1 = (stepF c z r).2 :: (carryF c ss (stepF c z r).1 ++ [(stepF c s (stepsF c ss ((stepF c z r).1, 0 + (stepF c z r).2)).1).2])
    rw [carryF_one c s ss (stepF c z r).1, stepsF_fst c ss (stepF c z r).1 0 (0 + (stepF c z r).2)]
theorem carryF_len (c : Int) : ∀ (ss : List Stp) (r : Int), (carryF c ss r).length = ss.length
  | [], _ => rfl
  | s :: ss, r => by
    show (carryF c ss (stepF c s r).1).length + 1 = ss.length + 1
    rw [carryF_len c ss]
theorem carryF_sum (c : Int) : ∀ (ss : List Stp) (r : Int), (carryF c ss r).sum = (stepsF c ss (r, 0)).2
  | [], _ => rfl
  | s :: ss, r => by
    show ((stepF c s r).2 :: carryF c ss (stepF c s r).1).sum = (stepsF c ss ((stepF c s r).1, 0 + (stepF c s r).2)).2
    rw [List.sum_cons, carryF_sum c ss, stepsF_add c ss (stepF c s r).1 (0 + (stepF c s r).2), Int.zero_add]
theorem nuMax3_int (a b z : Int) : nuMax3 (.int a) (.int b) (.int z) = some (.int (if (if a < b then b else a) < z then z else (if a < b then b else a))) := by
  by_cases h : a < b
  · by_cases h2 : b < z <;> simp [nuMax3, nuMax2, nuLt, nuCB, h, h2]
  · by_cases h2 : a < z <;> simp [nuMax3, nuMax2, nuLt, nuCB, h, h2]
/-- a <= b <= c <= d, a test -/
def tChain3 (r1 r2 r3 : R2) (ta tb tc td : TE) : TT := fun σ H Q => ta σ H fun x H1 => tb σ H1 fun y H2 => r1 x y H2 fun z H3 => ∃ k, z = .bl k ∧
  (if k = true then tc σ H3 fun x2 H4 => r2 y x2 H4 fun z2 H5 => ∃ k2, z2 = .bl k2 ∧ (if k2 = true then td σ H5 fun x3 H6 => r3 x2 x3 H6 fun z3 H7 => ∃ k3, z3 = .bl k3 ∧ Q k3 H7 else Q false H5) else Q false H3)
section
variable {X : Cx} {a b c d : Expr} {ta tb tc td : TE} {pos : Pos}
theorem pt_chain3 {o1 o2 o3 : CmpOp} {r1 r2 r3 : R2} (h1 : OpR X (compareOp o1) r1) (h2 : OpR X (compareOp o2) r2) (h3 : OpR X (compareOp o3) r3) (ha : PE X a ta) (hb : PE X b tb) (hc : PE X c tc) (hd : PE X d td)
    (hm : lastMarks [o1, o2, o3] [b, c, d] = false := by with_unfolding_all rfl) : PT X (.Compare a [o1, o2, o3] [b, c, d] pos) (tChain3 r1 r2 r3 ta tb tc td) := by
  refine ⟨fun pn s sg Hh Qq J h => isTrue_chain ?_ hm⟩
  refine thn (ha.run pn s sg Hh _ J h) fun v1 z1 ⟨x1, G1, J1, e1, p1⟩ => test_link ?_
  refine thn (hb.run pn z1 sg G1 _ J1 p1) fun v2 z2 ⟨x2, G2, J2, e2, p2⟩ => ?_
  refine thn (h1 pn z2 sg G2 x1 x2 v1 v2 _ J2 e1 e2 p2) fun v3 z3 ⟨y1, G3, J3, e3, k1, f1, p3⟩ => ?_
  subst f1
  cases e3
  refine wpAny_truthy_bool ?_
  cases k1 with
  | false => exact ite_ff ⟨G3, J3, p3⟩
  | true =>
    refine ite_tt (test_link ?_)
    refine thn (hc.run pn z3 sg G3 _ J3 p3) fun v4 z4 ⟨x3, G4, J4, e4, p4⟩ => ?_
    refine thn (h2 pn z4 sg G4 x2 x3 v2 v4 _ J4 e2 e4 p4) fun v5 z5 ⟨y2, G5, J5, e5, k2, f2, p5⟩ => ?_
    subst f2
    cases e5
    refine wpAny_truthy_bool ?_
    cases k2 with
    | false => exact ite_ff ⟨G5, J5, p5⟩
    | true =>
      refine ite_tt (test_last ?_)
      refine thn (hd.run pn z5 sg G5 _ J5 p5) fun v6 z6 ⟨x4, G6, J6, e6, p6⟩ => ?_
      refine thn (h3 pn z6 sg G6 x3 x4 v4 v6 _ J6 e4 e6 p6) fun v7 z7 ⟨y3, G7, J7, e7, k3, f3, p7⟩ => ?_
      subst f3
      cases e7
      exact wpAny_truthy_bool ⟨G7, J7, p7⟩
end
end Cc

/-! Many rounds: pairs of rounds are alike from the third on; the steps of all rounds one after another. -/
namespace Cc
open PySem PySem.Spec PyProof.Rows L2
theorem roundsF_plus (c : Int) (ss : List Stp) : ∀ (m n : Nat) (x : Int × Int), roundsF c ss (m + n) x = roundsF c ss n (roundsF c ss m x)
  | 0, n, x => by
    rw [Nat.zero_add]
    rfl
  | m + 1, n, x => by
    rw [Nat.succ_add]
    exact roundsF_plus c ss m n (stepsF c ss x)
theorem roundsF_sum (c : Int) (ss : List Stp) : ∀ (n : Nat) (r t : Int), roundsF c ss n (r, t) = ((roundsF c ss n (r, 0)).1, t + (roundsF c ss n (r, 0)).2)
  | 0, r, t => by
    show (r, t) = (r, t + 0)
    rw [Int.add_zero]
  | n + 1, r, t => by
    rw [roundsF_succ, roundsF_succ, roundsF_sum c ss n r t, stepsF_add c ss _ (t + _), stepsF_add c ss _ (roundsF c ss n (r, 0)).2]
    simp only [Prod.mk.injEq, true_and]
    omega
theorem pair_is (c : Int) (ss : List Stp) (x : Int × Int) : stepsF c (ss ++ ss) x = roundsF c ss 2 x := stepsF_app c ss ss x
theorem turnsF_pair (ss : List Stp) : turnsF (ss ++ ss) % 2 = 0 := by
  unfold turnsF
  rw [List.filter_append, List.length_append]
  omega
/-- a pair of rounds, done again, leaves the room as it is -/
theorem pair_twice {c x : Int} {ss : List Stp} (hs : ∀ s ∈ ss, s.ok c) (x0 : 0 ≤ x) (x1 : x ≤ c) : (stepsF c (ss ++ ss) ((stepsF c (ss ++ ss) (x, 0)).1, 0)).1 = (stepsF c (ss ++ ss) (x, 0)).1 := by
  have hp : ∀ s ∈ ss ++ ss, s.ok c := fun s h => (List.mem_append.mp h).elim (hs s) (hs s)
  obtain ⟨y0, y1, _⟩ := stepsF_in (t := 0) hp x0 x1 (Int.le_refl 0)
  obtain ⟨ok, _, e1⟩ := smSteps_says x0 x1 (ss ++ ss) hp
  obtain ⟨_, _, e2⟩ := smSteps_says y0 y1 (ss ++ ss) hp
  have ht : (smSteps c (ss ++ ss)).turned = false := by
    rw [turned_is, turnsF_pair]
    rfl
  rw [ht] at e1 e2
  generalize (stepsF c (ss ++ ss) ((stepsF c (ss ++ ss) (x, 0)).1, 0)).1 = z at *
  generalize (stepsF c (ss ++ ss) (x, 0)).1 = y at *
  generalize smSteps c (ss ++ ss) = m at *
  obtain ⟨low, high, extra, goal, turned⟩ := m
  have lh := ok.lh
  simp only at e1 e2 lh
  cases goal with
  | none =>
    simp [placeF, sideF, clampF] at e1 e2
    omega
  | some g =>
    simp [placeF, sideF] at e1 e2
    omega
/-- from a number that a pair leaves: p pairs -/
theorem pairs_all {c y : Int} {ss : List Stp} (h : (stepsF c (ss ++ ss) (y, 0)).1 = y) : ∀ p : Nat, roundsF c ss (2 * p) (y, 0) = (y, p * (stepsF c (ss ++ ss) (y, 0)).2)
  | 0 => by
    show (y, 0) = (y, ((0 : Nat) : Int) * _)
    simp
  | p + 1 => by
    have e : 2 * (p + 1) = 2 * p + 2 := by omega
    rw [e, roundsF_plus, pairs_all h p, ← pair_is, stepsF_add, h]
    simp only [Prod.mk.injEq, true_and]
    rw [Int.natCast_succ, Int.add_mul, Int.one_mul]
theorem rounds_fix {c r : Int} {ss : List Stp} (hs : ∀ s ∈ ss, s.ok c) (r0 : 0 ≤ r) (r1 : r ≤ c) (m : Nat) : (stepsF c (ss ++ ss) ((roundsF c ss (m + 2) (r, 0)).1, 0)).1 = (roundsF c ss (m + 2) (r, 0)).1 := by
  obtain ⟨a0, a1, _⟩ := roundsF_in (n := m) (t := 0) hs r0 r1 (Int.le_refl 0)
  have e : (roundsF c ss (m + 2) (r, 0)).1 = (stepsF c (ss ++ ss) ((roundsF c ss m (r, 0)).1, 0)).1 := by
    rw [roundsF_plus, pair_is, roundsF_sum c ss 2 (roundsF c ss m (r, 0)).1 (roundsF c ss m (r, 0)).2]
  rw [e]
  exact pair_twice hs a0 a1
/-- m + 2 rounds, then p pairs -/
theorem rounds_pairs {c r : Int} {ss : List Stp} (hs : ∀ s ∈ ss, s.ok c) (r0 : 0 ≤ r) (r1 : r ≤ c) (m p : Nat) :
    roundsF c ss (m + 2 + 2 * p) (r, 0) = ((roundsF c ss (m + 2) (r, 0)).1, (roundsF c ss (m + 2) (r, 0)).2 + p * (stepsF c (ss ++ ss) ((roundsF c ss (m + 2) (r, 0)).1, 0)).2) := by
  rw [roundsF_plus c ss (m + 2), roundsF_sum c ss (2 * p) (roundsF c ss (m + 2) (r, 0)).1 (roundsF c ss (m + 2) (r, 0)).2, pairs_all (rounds_fix hs r0 r1 m)]
theorem afterF_is {c r : Int} {ss : List Stp} (hs : ∀ s ∈ ss, s.ok c) (r0 : 0 ≤ r) (r1 : r ≤ c) (n : Nat) : afterF c ss r n = roundsF c ss n (r, 0) := rfl
/-- the code's own way: two or three rounds singly, the rest in pairs all alike -/
theorem few_is {c r : Int} {ss : List Stp} (hs : ∀ s ∈ ss, s.ok c) (r0 : 0 ≤ r) (r1 : r ≤ c) {n : Nat} (h : 2 ≤ n) :
    afterF c ss r n = ((stepsF c (ss ++ ss) ((roundsF c ss (2 + n % 2) (r, 0)).1, 0)).1, (roundsF c ss (2 + n % 2) (r, 0)).2 + ((n - (2 + n % 2)) / 2 : Nat) * (stepsF c (ss ++ ss) ((roundsF c ss (2 + n % 2) (r, 0)).1, 0)).2) := by
  have e : n = n % 2 + 2 + 2 * ((n - (2 + n % 2)) / 2) := by omega
  have h1 := rounds_pairs hs r0 r1 (n % 2) ((n - (2 + n % 2)) / 2)
  rw [← e] at h1
  unfold afterF
  rw [h1, Nat.add_comm 2 (n % 2), rounds_fix hs r0 r1]
/-- two parts of the rounds -/
theorem rounds_parts (c : Int) (ss : List Stp) (r : Int) (m n : Nat) : (roundsF c ss (m + n) (r, 0)).1 = (roundsF c ss n ((roundsF c ss m (r, 0)).1, 0)).1 ∧ (roundsF c ss (m + n) (r, 0)).2 = (roundsF c ss m (r, 0)).2 + (roundsF c ss n ((roundsF c ss m (r, 0)).1, 0)).2 := by
  rw [roundsF_plus, roundsF_sum c ss n (roundsF c ss m (r, 0)).1 (roundsF c ss m (r, 0)).2]
  exact ⟨rfl, rfl⟩
/-- each further pair carries what the third and the fourth round carry -/
theorem rounds_even {c r : Int} {ss : List Stp} (hs : ∀ s ∈ ss, s.ok c) (r0 : 0 ≤ r) (r1 : r ≤ c) (p : Nat) :
    (roundsF c ss (2 * p + 2) (r, 0)).2 = (roundsF c ss 2 (r, 0)).2 + p * ((roundsF c ss 4 (r, 0)).2 - (roundsF c ss 2 (r, 0)).2) := by
  have e : 2 * p + 2 = 0 + 2 + 2 * p := by omega
  have h1 := rounds_pairs hs r0 r1 0 p
  have h2 := rounds_pairs hs r0 r1 0 1
  simp only [Nat.zero_add] at h1 h2
  rw [e, Nat.zero_add, h1, show 4 = 2 + 2 * 1 from rfl, h2]
  simp only
  congr 1
  rw [Int.natCast_one, Int.one_mul, Int.add_comm (roundsF c ss 2 (r, 0)).2, Int.add_sub_cancel]
/-! ### the steps of all rounds -/
def cycF (ss : List Stp) (k n : Nat) : List Stp := (List.range n).map fun i => ss.getD ((k + i) % ss.length) .turn
theorem cycF_succ (ss : List Stp) (k n : Nat) : cycF ss k (n + 1) = cycF ss k n ++ [ss.getD ((k + n) % ss.length) .turn] := by
  unfold cycF
  rw [List.range_succ, List.map_append]
  rfl
theorem cycF_len (ss : List Stp) (k n : Nat) : (cycF ss k n).length = n := by
  unfold cycF
  simp only [List.length_range, List.length_map]
theorem getD_in {ss : List Stp} {i : Nat} (h : i < ss.length) : ss.getD i .turn = ss[i] := by simp [List.getD, h]
theorem getD_out {ss : List Stp} {i : Nat} (h : ss.length ≤ i) : ss.getD i .turn = .turn := by simp [List.getD, h]
theorem cycF_ok {c : Int} {ss : List Stp} (hs : ∀ s ∈ ss, s.ok c) (k n : Nat) : ∀ s ∈ cycF ss k n, s.ok c := fun s h => by
  obtain ⟨i, _, rfl⟩ := List.mem_map.mp h
  by_cases q : (k + i) % ss.length < ss.length
  · rw [getD_in q]
    exact hs _ (List.getElem_mem q)
  · rw [getD_out (by omega)]
    trivial
theorem rep_get {ss : List Stp} : ∀ (k i : Nat), i < k * ss.length → (List.replicate k ss).flatten[i]? = some (ss.getD (i % ss.length) .turn)
  | 0, i, h => by omega
  | k + 1, i, h => by
    rw [List.replicate_succ (n := k), List.flatten_cons]
    by_cases q : i < ss.length
    · rw [List.getElem?_append_left q, Nat.mod_eq_of_lt q, List.getElem?_eq_getElem q, getD_in q]
    · have h1 : (k + 1) * ss.length = k * ss.length + ss.length := Nat.succ_mul k ss.length
      rw [List.getElem?_append_right (by omega), rep_get k (i - ss.length) (by omega)]
      congr 2
      rw [Nat.mod_eq_sub_mod (by omega : i ≥ ss.length)]
theorem rep_take {ss : List Stp} {k n : Nat} (h : n ≤ k * ss.length) : ((List.replicate k ss).flatten).take n = cycF ss 0 n := by
  refine List.ext_getElem? fun i => ?_
  by_cases q : i < n
  · rw [List.getElem?_take_of_lt q, rep_get k i (by omega)]
    unfold cycF
    rw [List.getElem?_map, List.getElem?_range q]
    show _ = some (ss.getD ((0 + i) % ss.length) .turn)
    rw [Nat.zero_add]
  · rw [List.getElem?_eq_none (by rw [List.length_take]; omega), List.getElem?_eq_none (by rw [cycF_len]; omega)]
theorem Steps.rep {H : Hp} {vs : List V} {ss : List Stp} (h : Steps H vs ss) : ∀ k : Nat, Steps H (List.replicate k vs).flatten (List.replicate k ss).flatten
  | 0 => .nil
  | k + 1 => by
    simp only [List.replicate_succ, List.flatten_cons]
    exact h.append (Steps.rep h k)
theorem eqv_selfs (ns : List Int) : PyData.eqv (.list (ns.map PyData.int)) (.list (ns.map PyData.int)) = true := by
  have q : ∀ ns : List Int, PyData.eqvAll (ns.map PyData.int) (ns.map PyData.int) = true := fun ns => by
    induction ns with
    | nil => simp [PyData.eqvAll]
    | cons a ns ih => simp [PyData.eqvAll, PyData.eqv, ih]
  simp [PyData.eqv, q ns]
end Cc

/-! The steps of all rounds, cut; two meetings for all chairs. -/
namespace Cc
open PySem PySem.Spec PyProof.Rows L2
theorem cycF_cons (ss : List Stp) (k n : Nat) : cycF ss k (n + 1) = ss.getD (k % ss.length) .turn :: cycF ss (k + 1) n := by
  unfold cycF
  rw [List.range_succ_eq_map, List.map_cons, List.map_map]; refine congrArg _ (List.map_congr_left fun i _ => ?_)
  show ss.getD ((k + (i + 1)) % ss.length) .turn = ss.getD ((k + 1 + i) % ss.length) .turn
  rw [show k + (i + 1) = k + 1 + i by omega]
theorem cycF_app (ss : List Stp) : ∀ (n k m : Nat), cycF ss k (n + m) = cycF ss k n ++ cycF ss (k + n) m
  | 0, k, m => by
    rw [Nat.zero_add]
    rfl
  | n + 1, k, m => by
    rw [show n + 1 + m = (n + m) + 1 by omega, cycF_cons, cycF_cons, cycF_app ss n (k + 1) m, List.cons_append, show k + 1 + n = k + (n + 1) by omega]
theorem cycF_mod (ss : List Stp) (k m : Nat) : cycF ss (k % ss.length) m = cycF ss k m := by
  unfold cycF
  refine List.map_congr_left fun i _ => ?_; rw [Nat.mod_add_mod]
theorem carryF_app (c : Int) : ∀ (a b : List Stp) (r : Int), carryF c (a ++ b) r = carryF c a r ++ carryF c b (stepsF c a (r, 0)).1
  | [], _, _ => rfl
  | s :: a, b, r => by
    show (stepF c s r).2 :: carryF c (a ++ b) (stepF c s r).1 = (stepF c s r).2 :: (carryF c a (stepF c s r).1 ++ carryF c b (stepsF c a ((stepF c s r).1, 0 + (stepF c s r).2)).1)
    rw [carryF_app c a b, stepsF_fst c a (stepF c s r).1 (0 + (stepF c s r).2) 0]
theorem flat_rounds (c : Int) (ss : List Stp) : ∀ (n : Nat) (y : Int × Int), stepsF c (List.replicate n ss).flatten y = roundsF c ss n y
  | 0, _ => rfl
  | n + 1, y => by
    rw [List.replicate_succ, List.flatten_cons, stepsF_app, flat_rounds c ss n]
    rfl
theorem flat_len (ss : List Stp) (n : Nat) : (List.replicate n ss).flatten.length = n * ss.length := by
  rw [List.length_flatten, List.map_replicate, List.sum_replicate_nat]
theorem flat_cyc (ss : List Stp) (n : Nat) : (List.replicate n ss).flatten = cycF ss 0 (n * ss.length) := by
  rw [← rep_take (ss := ss) (k := n) (n := n * ss.length) (Nat.le_refl _), List.take_of_length_le (Nat.le_of_eq (flat_len ss n))]
/-- where the red room stands behind k steps -/
theorem reach_is {c x : Int} {ss : List Stp} (hs : ∀ s ∈ ss, s.ok c) (hne : ss ≠ []) (x0 : 0 ≤ x) (x1 : x ≤ c) (k : Nat) :
    (stepsF c (ss.take (k % ss.length)) ((afterF c ss x (k / ss.length)).1, 0)).1 = (stepsF c (cycF ss 0 k) (x, 0)).1 := by
  have pos : 0 < ss.length := List.length_pos_iff.mpr hne
  have lt : k % ss.length < ss.length := Nat.mod_lt _ pos
  have e : k = k / ss.length * ss.length + k % ss.length := (Nat.div_add_mod' k ss.length).symm
  have h1 : cycF ss 0 k = (List.replicate (k / ss.length) ss).flatten ++ ss.take (k % ss.length) := by
    have h2 : cycF ss (k / ss.length * ss.length) (k % ss.length) = ss.take (k % ss.length) := by
      rw [← cycF_mod, Nat.mul_mod_left, ← rep_take (ss := ss) (k := 1) (by omega)]
      simp
    calc cycF ss 0 k = cycF ss 0 (k / ss.length * ss.length + k % ss.length) := congrArg _ e
      _ = _ := by rw [cycF_app, Nat.zero_add, h2, ← flat_cyc]
  rw [h1, stepsF_app, flat_rounds, afterF_is hs x0 x1]
  exact stepsF_fst c _ _ _ _
/-- some of what all rounds carry -/
theorem carried_cut {c x : Int} {ss : List Stp} (hs : ∀ s ∈ ss, s.ok c) (hne : ss ≠ []) (x0 : 0 ≤ x) (x1 : x ≤ c) {n k m : Nat} (h : k + m ≤ n * ss.length) :
    ((carryF c (List.replicate n ss).flatten x).drop k).take m = carryF c (cycF ss (k % ss.length) m) (stepsF c (ss.take (k % ss.length)) ((afterF c ss x (k / ss.length)).1, 0)).1 := by
  rw [reach_is hs hne x0 x1, cycF_mod, flat_cyc, show n * ss.length = k + (m + (n * ss.length - (k + m))) by omega, cycF_app, cycF_app, carryF_app, carryF_app, Nat.zero_add]
  rw [List.drop_append_of_le_length (by rw [carryF_len, cycF_len]; omega), List.drop_of_length_le (by rw [carryF_len, cycF_len]; omega), List.nil_append, List.take_append_of_le_length (by rw [carryF_len, cycF_len]; omega), List.take_of_length_le (by rw [carryF_len, cycF_len]; omega)]
/-! ### two meetings for all chairs -/
def altN (n : Int) : List Stp := [.meet true n, .meet false n]
theorem altN_get (n : Int) (k : Nat) : (altN n).getD (k % (altN n).length) .turn = if k % 2 = 0 then .meet true n else .meet false n := by
  show (altN n).getD (k % 2) .turn = _
  rcases Nat.mod_two_eq_zero_or_one k with h | h <;> rw [h] <;> rfl
theorem alt_carry {n : Int} (n0 : 0 ≤ n) : ∀ (m k : Nat) (r : Int), r = (if k % 2 = 0 then 0 else n) → carryF n (cycF (altN n) k m) r = List.replicate m n
  | 0, _, _, _ => rfl
  | m + 1, k, r, h => by
    rw [cycF_cons, altN_get]
    by_cases q : k % 2 = 0
    · rw [if_pos q] at h ⊢
      subst h
      have e : stepF n (.meet true n) 0 = (n, n) := by
        simp only [stepF, mx_eq, Prod.mk.injEq]
        omega
      show (stepF n (.meet true n) 0).2 :: carryF n (cycF (altN n) (k + 1) m) (stepF n (.meet true n) 0).1 = _
      rw [e, alt_carry n0 m (k + 1) n (by rw [if_neg (by omega)]), List.replicate_succ]
    · rw [if_neg q] at h ⊢
      subst h
      have e : stepF r (.meet false r) r = (0, r) := by
        simp only [stepF, mx_eq, Prod.mk.injEq]
        omega
      show (stepF r (.meet false r) r).2 :: carryF r (cycF (altN r) (k + 1) m) (stepF r (.meet false r) r).1 = _
      rw [e, alt_carry n0 m (k + 1) 0 (by rw [if_pos (by omega)]), List.replicate_succ]
theorem alt_step {n : Int} (n0 : 0 ≤ n) : ∀ (k : Nat), (stepsF n (cycF (altN n) 0 k) (0, 0)).1 = if k % 2 = 0 then 0 else n
  | 0 => rfl
  | k + 1 => by
    rw [cycF_succ, stepsF_one, alt_step n0 k, Nat.zero_add, altN_get]
    by_cases q : k % 2 = 0
    · rw [if_pos q, if_pos q, if_neg (by omega)]
      simp only [stepF, mx_eq]
      omega
    · rw [if_neg q, if_neg q, if_pos (by omega)]
      simp only [stepF, mx_eq]
      omega
theorem alt_ok {n : Int} (n0 : 0 ≤ n) : ∀ s ∈ altN n, s.ok n := fun s h => by
  rcases List.mem_cons.mp h with rfl | h2
  · exact ⟨n0, Int.le_refl n⟩
  · rw [List.mem_singleton.mp h2]
    exact ⟨n0, Int.le_refl n⟩
/-- all steps of such a plan carry all chairs -/
theorem alt_outs {n : Int} (n0 : 0 ≤ n) (k m : Nat) : carryF n (cycF (altN n) (k % (altN n).length) m) (stepsF n ((altN n).take (k % (altN n).length)) ((afterF n (altN n) 0 (k / (altN n).length)).1, 0)).1 = List.replicate m n := by
  rw [reach_is (alt_ok n0) (fun z => nomatch z) (Int.le_refl 0) n0, cycF_mod, alt_step n0]
  exact alt_carry n0 m k _ rfl
theorem ints_cut (ns : List Int) {a b : Nat} (h : b ≤ ns.length) : cutV (ns.map V.int) (some (a : Int)) (some (b : Int)) = (((ns.drop a).take (b - a)).map V.int) := by
  unfold cutV
  rw [HT.sIx_nat, HT.sIx_nat, List.length_map, Nat.min_eq_left h, List.map_take, List.map_drop]
  by_cases q : a ≤ ns.length
  · rw [Nat.min_eq_left q]
  · rw [Nat.min_eq_right (by omega), List.drop_of_length_le (by rw [List.length_map]; omega), List.drop_of_length_le (by rw [List.length_map]; omega)]
    simp
theorem rep_ints (n : Int) : ∀ k : Nat, (List.replicate k [V.int n]).flatten = (List.replicate k n).map V.int
  | 0 => rfl
  | k + 1 => by
    rw [List.replicate_succ, List.flatten_cons, rep_ints n k, List.replicate_succ]
    rfl
end Cc

/-! What carrying tells about a start. -/
namespace Cc
open PySem PySem.Spec PyProof.Rows L2
/-- the red room when the step with number a + 1 begins -/
def reachF (c : Int) (ss : List Stp) (r : Int) (a : Int) : Int := (stepsF c (ss.take (a % (ss.length : Int)).toNat) ((afterF c ss r (a / (ss.length : Int)).toNat).1, 0)).1
/-- from and up to which number of chairs, in the room that was red at first, a step carries so many -/
def numF (c : Int) (t : Bool) (k : Int) : Stp → Int × Int
  | .turn => if k = 0 then (0, c) else (1, 0)
  | .meet b n => if k = 0 then allowF c t b n else (if (allowF c t b n).1 > 0 then (allowF c t b n).1 - k else (allowF c t b n).2 + k, if (allowF c t b n).1 > 0 then (allowF c t b n).1 - k else (allowF c t b n).2 + k)
theorem num_iff {c k r : Int} {t : Bool} {s : Stp} (hs : s.ok c) (k0 : 0 ≤ k) (r0 : 0 ≤ r) (r1 : r ≤ c) :
    ((numF c t k s).1 ≤ placeF c (sideF t) r ∧ placeF c (sideF t) r ≤ (numF c t k s).2) ↔ (stepF c s r).2 = k := by
  have p0 : 0 ≤ placeF c (sideF t) r ∧ placeF c (sideF t) r ≤ c := by
    unfold placeF
    split <;> omega
  cases s with
  | turn =>
    unfold numF
    have e : (stepF c .turn r).2 = 0 := rfl
    rw [e]
    by_cases h : k = 0
    · rw [if_pos h]
      constructor
      · intro _
        exact h.symm
      · intro _
        exact p0
    · rw [if_neg h]
      constructor
      · intro z
        exfalso
        have := z.1
        have := z.2
        simp only at *
        omega
      · intro z
        exact (h z.symm).elim
  | meet b n =>
    obtain ⟨n0, n1⟩ := hs
    obtain ⟨f1, f2, f3⟩ := place_allow (c := c) (b := b) (t := t) r0 r1 n0 n1
    rw [f2, f1]
    have hab : allowF c t b n = (0, c - n) ∨ allowF c t b n = (n, c) := by
      unfold allowF
      split
      · exact .inl rfl
      · exact .inr rfl
    unfold numF
    generalize placeF c (sideF t) r = y at *
    rcases hab with e | e
    · rw [e]
      simp only [clampF, ab]
      by_cases h : k = 0
      · rw [if_pos h, e]
        dsimp only
        omega
      · rw [if_neg h, e]
        dsimp only
        omega
    · rw [e]
      simp only [clampF, ab]
      by_cases h : k = 0
      · rw [if_pos h, e]
        dsimp only
        omega
      · rw [if_neg h, e]
        dsimp only
        omega
/-- from and up to which start -/
def fromF (c low high least most : Int) : Int × Int :=
  if mx least low > (if high < most then high else most) then (1, 0) else (if least > low then least else 0, if most < high then most else c)
theorem from_iff {c low high least most x : Int} (l0 : 0 ≤ low) (lh : low ≤ high) (h1 : high ≤ c) (x0 : 0 ≤ x) (x1 : x ≤ c) :
    ((fromF c low high least most).1 ≤ x ∧ x ≤ (fromF c low high least most).2) ↔ (least ≤ clampF low high x ∧ clampF low high x ≤ most) := by
  unfold fromF
  rw [mx_eq]
  by_cases q : max least low > (if high < most then high else most)
  · rw [if_pos q]
    simp only [clampF]
    constructor
    · intro h
      omega
    · intro h
      exfalso
      omega
  · rw [if_neg q]
    simp only [clampF]
    omega
def lowG (m : Sm) : Int := match m.goal with
  | none => m.low
  | some g => g
def highG (m : Sm) : Int := match m.goal with
  | none => m.high
  | some g => g
end Cc

/-! tuple * int, the number from 0 on. -/
namespace Cc
open PySem PySem.Spec PyProof.Rows L2
theorem tup_mul_self (l : Addr) (items : Array Value) (n : Nat) (dd : Option Addr) (sl : Array (Option Value)) (x : Int) (u : Tok) (c0 : (decide (x < -(2 ^ 63)) || decide (x ≥ 2 ^ 63)) = false) (c1 : (items.isEmpty || x == 1) = true) :
    Meets (Builtin.«tuple.__mul__» ⟨[.ref l, .int x u], []⟩) (fun _ R s => s.heap.get? l = some { cls := .type "tuple", dict := dd, data := .seq items n, slots := sl } ∧ R (.ok (.ret (.ref l))) s) := .of_wp fun prog w A R s h => by
    obtain ⟨hp, g, d, tk, os⟩ := s; obtain ⟨hl, h⟩ := h; have f1 := AutoSeq1.idx_int
    have ht : Shared.TypeIs ⟨hp, g, d, tk, os⟩ (.ref l) "tuple" := ⟨_, hl, rfl⟩
    (wp_walk using wpAny_loadPart' hl)
    repeat (first
      | ((refine wpAny_ite_false (decide_eq_false (by rw [c0]; exact Bool.false_ne_true)) ?_; wp_walk using wpAny_loadPart' hl))
      | (refine wpAny_ite_true (decide_eq_true c1) ?_; wp_walk using wpAny_loadPart' hl))
    exact ⟨_, rfl, h⟩
theorem tup_mul_none (l : Addr) (items : Array Value) (n : Nat) (dd : Option Addr) (sl : Array (Option Value)) (x : Int) (u : Tok) (c0 : (decide (x < -(2 ^ 63)) || decide (x ≥ 2 ^ 63)) = false) (c1 : (items.isEmpty || x == 1) = false) (c2 : (decide (x ≤ 0) || items.isEmpty) = true) : Meets (Builtin.«tuple.__mul__» ⟨[.ref l, .int x u], []⟩) (fun _ R s => s.heap.get? l = some { cls := .type "tuple", dict := dd, data := .seq items n, slots := sl } ∧
      R (.ok (.ret (Value.ref s.heap.objs.size))) { s with heap := s.heap.push { cls := Value.type "tuple", data := Data.seq #[] }, toks := s.toks }) := .of_wp fun prog w A R s h => by
    obtain ⟨hp, g, d, tk, os⟩ := s; obtain ⟨hl, h⟩ := h; have f1 := AutoSeq1.idx_int
    have ht : Shared.TypeIs ⟨hp, g, d, tk, os⟩ (.ref l) "tuple" := ⟨_, hl, rfl⟩
    (wp_walk using wpAny_loadPart' hl)
    repeat (first
      | (refine wpAny_ite_false (decide_eq_false (by rw [c0]; exact Bool.false_ne_true)) ?_; wp_walk using wpAny_loadPart' hl) | (refine wpAny_ite_false (decide_eq_false (by rw [c1]; exact Bool.false_ne_true)) ?_; wp_walk using wpAny_loadPart' hl)
      | (refine wpAny_ite_true (decide_eq_true c2) ?_; wp_walk using wpAny_loadPart' hl))
    exact ⟨_, rfl, h⟩
/-- t * k, k from 0 on: the same object, or a new one -/
def rRepG (K : PySem.W.Frag) : R2 := fun x y H Q => ∃ l k xs, x = .ref l ∧ y = .int k ∧ SqT K H l xs ∧ 0 ≤ k ∧ k ≤ 1000 ∧ xs.length ≤ 1000 ∧
  ((List.replicate k.toNat xs).flatten = xs → Q (.ref l) H) ∧ ∀ p, H p = none → Q (.ref p) (upd H p (.tup (List.replicate k.toNat xs).flatten))
theorem flat_none {α : Type} : ∀ n : Nat, (List.replicate n ([] : List α)).flatten = []
  | 0 => rfl
  | n + 1 => by
    rw [List.replicate_succ, List.flatten_cons, flat_none n]
    rfl
section
variable {X : Cx}
theorem op_repG : OpR X (binaryOp .Mult) (rRepG X.K) := by
  intro pins s σ H x y v u Q I rx ry h; obtain ⟨l, k, xs, rfl, rfl, hT, h0, h1, hz, q1, q2⟩ := h
  by_cases big : xs ≠ [] ∧ 2 ≤ k
  · exact op_repT pins s σ H _ _ v u Q I rx ry ⟨l, k, xs, rfl, rfl, hT, big.1, big.2, h1, hz, q2⟩
  · cases rx
    obtain ⟨t, rfl⟩ := ry
    obtain ⟨its, r, ⟨⟨cls, dd, data, sl⟩, ho, hc, n, hd⟩, hs⟩ := I.tuple hT; simp only at hc hd
    subst hc hd
    have hle : its.length = xs.length := r.length.symm; have c0 : (decide (k < -(2 ^ 63)) || decide (k ≥ 2 ^ 63)) = false := by
      (rw [decide_eq_false (by omega), decide_eq_false (by omega)] <;> rfl)
    by_cases sm : xs = [] ∨ k = 1
    · have c1 : (its.toArray.isEmpty || k == 1) = true := by
        rcases sm with e | e
        · subst e
          have : its = [] := List.eq_nil_of_length_eq_zero hle
          subst this
          rfl
        · subst e
          simp
      have ef : (List.replicate k.toNat xs).flatten = xs := by
        rcases sm with e | e
        · subst e
          exact flat_none _
        · subst e
          simp
      refine wpAny_binaryOp_repeat_ref (T := "tuple") (U := "int") (by decide) ⟨_, ho, rfl⟩ (fun s' => typeIs_int s' k t) noFill_tuple_mul F.fills_int_mul F.slot_int_rmul repeat_tuple F.slot_int_index.lookup (call_meets F.slot_int_rmul (typeIs_int s k t) F.entry_int_rmul (F.args_int_rmul_2 _ _) (int_rmul_tuple k t l its.toArray n dd sl)
          ⟨ho, rfl, ⟨_, ho, rfl⟩, call_meets F.slot_tuple_mul ⟨_, ho, rfl⟩ F.entry_tuple_mul (F.args_tuple_mul_2 _ _) (tup_mul_self l its.toArray n dd sl k t c0 c1) ⟨ho, ?_⟩⟩)
      exact ⟨.ref l, _, I, rfl, q1 ef⟩
    · have hne : xs ≠ [] := fun e => sm (.inl e)
      have k0 : k = 0 := by
        have : k ≠ 1 := fun e => sm (.inr e)
        have : ¬ 2 ≤ k := fun e => big ⟨hne, e⟩
        omega
      subst k0; have hn : its ≠ [] := fun e => hne (by
        rw [e] at hle; exact List.eq_nil_of_length_eq_zero hle.symm)
      have hi : (its.toArray.isEmpty = false) := by
        cases its with
        | nil => exact absurd rfl hn
        | cons a b => rfl
      have c1 : (its.toArray.isEmpty || (0 : Int) == 1) = false := by rw [hi]; rfl
      refine wpAny_binaryOp_repeat_ref (T := "tuple") (U := "int") (by decide) ⟨_, ho, rfl⟩ (fun s' => typeIs_int s' 0 t) noFill_tuple_mul F.fills_int_mul F.slot_int_rmul repeat_tuple F.slot_int_index.lookup
        (call_meets F.slot_int_rmul (typeIs_int s 0 t) F.entry_int_rmul (F.args_int_rmul_2 _ _) (int_rmul_tuple 0 t l its.toArray n dd sl)
          ⟨ho, rfl, ⟨_, ho, rfl⟩, call_meets F.slot_tuple_mul ⟨_, ho, rfl⟩ F.entry_tuple_mul (F.args_tuple_mul_2 _ _) (tup_mul_none l its.toArray n dd sl 0 t c0 c1 rfl) ⟨ho, ?_⟩⟩)
      refine ⟨.ref s.heap.objs.size, _, I.laid (t' := s.toks) (o := .tup []) (fun b ob q => Heap.get?_push_of_some _ q) (Nat.le_refl _) ?_, rfl, q2 _ (I.hok.fresh (Nat.le_refl _))⟩
      exact ⟨Nat.zero_le _, _, .nil, IsTup.new _ _⟩
end
/-- step == TURN -/
def isT : Stp → Bool
  | .turn => true
  | .meet _ _ => false
def rTurn (K : PySem.W.Frag) : R2 := fun x y Hh Qz => ∃ t st p, x = .ref t ∧ Hh t = some (.tup (stpV st)) ∧ y = .ref p ∧ SqT K Hh p [.str "turn"] ∧ Qz (.bl (isT st)) Hh
theorem op_eqTurn {X : Cx} (hu : X.A.units + 64 < cLine) : OpR X (compareOp .Eq) (rTurn X.K) := by
  intro pins s σ H x y v u Q I rx ry h; obtain ⟨t, st, p, rfl, ht, rfl, hp, q⟩ := h
  refine op_eqD hu pins s σ H _ _ v u Q I rx ry ?_
  cases st with
  | turn =>
    refine ⟨.tuple [.str "turn"], .tuple [.str "turn"], .tup (SqT.of ht) (.cons (.str _) .nil), .tup hp (.cons (.str _) .nil), by decide +kernel, by decide +kernel, ?_⟩
    rw [eqv_turn]
    exact q
  | meet b n =>
    refine ⟨.tuple [.str (roomS b), .int n], .tuple [.str "turn"], .tup (SqT.of ht) (.cons (.str _) (.cons (.int _) .nil)), .tup hp (.cons (.str _) .nil), shaped_meet b n, by decide +kernel, ?_⟩
    rw [eqv_meet]
    exact q
end Cc

/-! Own rules: count of a list, of a tuple; what is never reached; isinstance of a caught error. -/
namespace Cc
open PySem PySem.Spec PyProof.Rows L2
theorem room65 {k : Nat} {A : Around} (hr : Room k A) : A.units + 65 < cLine := by
  have := hr.un
  omega
/-- what is never reached -/
theorem pe_never {X : Cx} {e : Expr} : PE X e (fun _ _ _ => False) := ⟨fun _ _ _ _ _ _ h => h.elim⟩
def rCountL (K : PySem.W.Frag) : V → List V → Hp → VK → Prop := fun x xs H Q => ∃ (a : Addr) (ys : List V) (y : V) (d : PyData) (ds : List PyData), x = V.ref a ∧ xs = [y] ∧ SqL K H a ys ∧ DpAll K H ys ds ∧ Dp K H y d ∧
  SeqAt.shaped (.list ds) = true ∧ SeqAt.shaped d = true ∧ PyData.plainAll ds = true ∧ d.plain = true ∧ Q (.int ((ds.countP fun z => PyData.eqv z d : Nat) : Int)) H
def rCountT (K : PySem.W.Frag) : V → List V → Hp → VK → Prop := fun x xs H Q => ∃ (a : Addr) (ys : List V) (y : V) (d : PyData) (ds : List PyData), x = V.ref a ∧ xs = [y] ∧ SqT K H a ys ∧ DpAll K H ys ds ∧ Dp K H y d ∧
  SeqAt.shaped (.list ds) = true ∧ SeqAt.shaped d = true ∧ PyData.plainAll ds = true ∧ d.plain = true ∧ Q (.int ((ds.countP fun z => PyData.eqv z d : Nat) : Int)) H
theorem mt_countL {X : Cx} (hu : X.A.units + 65 < cLine) : MtR X "list.count" (rCountL X.K) := by
  intro pins s σ H x xs v us Q I rx rxs h; obtain ⟨a, ys, y, d, ds, rfl, rfl, hs, ha, hy, sl, sd, pl, pd, q⟩ := h
  cases rx
  cases rxs with
  | cons ry rt =>
    rename_i uy ut
    cases rt
    obtain ⟨bs, r1⟩ := Dp.reads I d y uy hy ry; have hroom : X.A.units + 1 + min (PyData.depthAll ds) d.depth < cLine := room_in_shaped sd hu
    obtain ⟨its, rv, p, hlen⟩ := I.list hs
    obtain ⟨as, h4⟩ := Dp.readsAll I ds _ its ha rv; exact SeqAt.count_list_data (vs := its.toArray) p.isList (by simpa using h4) r1 pl pd hroom ⟨.int _, H, I.tok _, ⟨_, rfl⟩, q⟩
theorem mt_countT {X : Cx} (hu : X.A.units + 65 < cLine) : MtR X "tuple.count" (rCountT X.K) := by
  intro pins s σ H x xs v us Q I rx rxs h; obtain ⟨a, ys, y, d, ds, rfl, rfl, hs, ha, hy, sl, sd, pl, pd, q⟩ := h
  cases rx
  cases rxs with
  | cons ry rt =>
    rename_i uy ut
    cases rt
    obtain ⟨bs, r1⟩ := Dp.reads I d y uy hy ry; have hroom : X.A.units + 1 + min (PyData.depthAll ds) d.depth < cLine := room_in_shaped sd hu
    obtain ⟨its, rv, p, hlen⟩ := I.tuple hs
    obtain ⟨as, h4⟩ := Dp.readsAll I ds _ its ha rv; exact SeqAt.count_tuple_data (vs := its.toArray) p (by simpa using h4) r1 pl pd hroom ⟨.int _, H, I.tok _, ⟨_, rfl⟩, q⟩
/-- a method of a locked tuple -/
def tBMZ (r : V → List V → Hp → VK → Prop) (to : TE) (t : TA) : TE := fun σ H Q => to σ H fun x H1 => (∃ p ws, x = V.ref p ∧ TupP H1 p ws) ∧ t σ H1 fun xs H2 => r x xs H2 Q
theorem pe_bmZ {X : Cx} {o e : Expr} {es : List Expr} {to : TE} {t : TA} {name : Str} {apos cpos : Pos} {id : String} {r : V → List V → Hp → VK → Prop} (slot : Slot "tuple" name id) (hty : typeOf (.builtin id) = pure (.type "method_descriptor")) (hm : MtR X id r) (ho : PE X o to) (ha : PA X (e :: es) t)
    (hbase : attributeBase o name X.env (eval o X.env) = eval o X.env := by rfl) (hfew : ((backTo cpos (starEach (e :: es) X.env)).all (fun x => !x.1) && (backToKw cpos (keywordEach [] X.env)).all (fun x => x.1.isSome) && decide ((e :: es).length + ([] : List Keyword).length + (if ([] : List Keyword).isEmpty then 0 else 1) < 30)) = true := by rfl)
    (hline : (apos.endLine == cpos.line) = true := by rfl) (hs : starEach (e :: es) X.env = (false, eval e X.env) :: starEach es X.env := by rfl) (hpl : (backTo cpos (starEach es X.env)).any (·.1) = false := by rfl) :
    PE X (.Call (.Attribute o name apos) (e :: es) [] cpos) (tBMZ r to t) := by
  refine ⟨fun pins s σ H Q I h => wpAny_Call_method_late hbase hfew hline rfl (thn (ho.run pins s σ H _ I h) fun v s1 ⟨x, H1, I1, r1, ⟨p, ws, ex, ob, d0, eH⟩, q1⟩ => ?_)⟩
  subst ex
  cases r1
  obtain ⟨g0, _, its, _, ⟨o2, g2, c2, _⟩⟩ := (show ObjOk X.prog X.w H1 s1.heap p (.frz ob (.tup ws)) from I1.hok p _ eH)
  have ti : s1.TypeIs (.ref p) "tuple" := ⟨o2, g2, c2⟩
  refine ⟨"tuple", id, PySem.F.plainAttrs_tuple, slot, hty, ti, fun a z => ⟨ob, by cases z; exact g0, d0⟩, ?_⟩
  have hA := ha.run cpos pins s1 σ H1 _ I1 q1; rw [hs] at hA ⊢
  exact Calls.callWith_builtin (by show (false || (backTo cpos (starEach es X.env)).any (·.1)) = false; rw [hpl]; rfl) (Calls.evalArgs_plain (thn hA fun us s2 ⟨vs, H2, I2, r2, q2⟩ => hm pins s2 σ H2 (.ref p) vs (.ref p) us Q I2 rfl r2 q2))
/-- an own class asked of an own class's instance -/
theorem kit_ref {K : PySem.W.Frag} {C : Addr} {cls : Value} {b : Bool} (i : PySem.W.isClsIn K C = true) (t : PySem.W.typeIn K (.ref C) = some (.type "type")) (h : PySem.W.subIn K cls (.ref C) = some b) (ne : b = false → (cls == Value.ref C) = false) : PySem.W.kitOne K cls (.ref C) = some b := by
  have i2 : (PySem.W.clsIn K C).isSome = true := i
  unfold PySem.W.kitOne
  by_cases q : (cls == Value.ref C) = true
  · rw [if_pos q]
    cases b with
    | true => rfl
    | false =>
      rw [ne rfl] at q
      cases q
  · rw [if_neg q]
    show PySem.W.kitCls K cls (.ref C) = some b
    unfold PySem.W.kitCls
    simp only [i2, t, h]
    rfl
/-- steps as data -/
def stpD : Stp → PyData
  | .turn => .tuple [.str "turn"]
  | .meet b n => .tuple [.str (roomS b), .int n]
theorem stpD_dp {K : PySem.W.Frag} {H : Hp} : ∀ {vs : List V} {ss : List Stp}, Steps H vs ss → DpAll K H vs (ss.map stpD)
  | _, _, .nil => .nil
  | _, s :: ss, .cons ⟨t, e, h⟩ r => by
    subst e
    refine .cons ?_ (stpD_dp r)
    cases s with
    | turn => exact .tup (SqT.of h) (.cons (.str _) .nil)
    | meet b n => exact .tup (SqT.of h) (.cons (.str _) (.cons (.int _) .nil))
theorem stpD_lay : ∀ ss : List Stp, PyData.canLayAll0 (ss.map stpD) = true ∧ PyData.depthAll (ss.map stpD) ≤ 1 ∧ PyData.plainAll (ss.map stpD) = true
  | [] => by simp [PyData.canLayAll0, PyData.depthAll, PyData.plainAll]
  | s :: ss => by
    obtain ⟨a, b, c⟩ := stpD_lay ss
    have h1 : ∀ bb, PyData.strOk (roomS bb) = true := fun bb => by cases bb <;> decide +kernel
    have h2 : PyData.strOk "turn" = true := by decide +kernel
    cases s with
    | turn =>
      refine ⟨by simp [PyData.canLayAll0, PyData.canLay0, stpD, a, h2], ?_, by simp [PyData.plainAll, PyData.plain, stpD, c]⟩
      simp [PyData.depthAll, PyData.depth, stpD]
      omega
    | meet bb n =>
      refine ⟨by simp [PyData.canLayAll0, PyData.canLay0, stpD, a, h1], ?_, by simp [PyData.plainAll, PyData.plain, stpD, c]⟩
      simp [PyData.depthAll, PyData.depth, stpD]
      omega
theorem stpD_shaped (ss : List Stp) : SeqAt.shaped (.list (ss.map stpD)) = true := by
  obtain ⟨a, b, _⟩ := stpD_lay ss
  have : PyData.depth (.list (ss.map stpD)) ≤ 2 := by
    simp [PyData.depth]
    omega
  simp [SeqAt.shaped, PyData.canLay0, a]
  omega
theorem count_turns : ∀ ss : List Stp, ((ss.map stpD).countP fun z => PyData.eqv z (.tuple [.str "turn"])) = turnsF ss
  | [] => rfl
  | s :: ss => by
    have ih := count_turns ss
    rw [List.map_cons, List.countP_cons, ih]
    cases s with
    | turn =>
      have e : PyData.eqv (stpD .turn) (.tuple [.str "turn"]) = true := eqv_turn
      rw [e]
      rfl
    | meet b n =>
      have e : PyData.eqv (stpD (.meet b n)) (.tuple [.str "turn"]) = false := eqv_meet b n
      rw [e]
      rfl
end Cc

/-! What steps in a list do; which starts explain what is seen behind them. -/
namespace Cc
open PySem PySem.Spec PyProof.Rows L2
/-- a step: a fresh tuple, or the module's own turn -/
def StQ (TU : Addr) (H : Hp) (t : Addr) (s : Stp) : Prop := H t = some (.tup (stpV s)) ∨ (t = TU ∧ s = .turn)
def StepQ (TU : Addr) (H : Hp) (v : V) (s : Stp) : Prop := ∃ t, v = .ref t ∧ StQ TU H t s
theorem stq_sq {K : PySem.W.Frag} {TU : Addr} {H : Hp} {t : Addr} {s : Stp} (tq : ∀ H, SqT K H TU [.str "turn"]) (h : StQ TU H t s) : SqT K H t (stpV s) := by
  rcases h with h | ⟨rfl, rfl⟩
  · exact SqT.of h
  · exact tq H
theorem stq_mono {TU : Addr} {H H' : Hp} {t : Addr} {s : Stp} (h : StQ TU H t s) (k : ∀ t us, H t = some (.tup us) → H' t = some (.tup us)) : StQ TU H' t s := h.imp (k _ _) id
theorem stq_same {TU : Addr} {H H' : Hp} {t : Addr} {s : Stp} (h : StQ TU H t s) (k : Same H H') : StQ TU H' t s := stq_mono h fun _ _ => k _ _
theorem stq_meet {TU : Addr} {H : Hp} {t : Addr} {b : Bool} {n : Int} (h : StQ TU H t (.meet b n)) : H t = some (.tup (stpV (.meet b n))) := h.elim id fun z => nomatch z.2
theorem pair_get {α β : Type} {R : α → β → Prop} : ∀ {vs : List α} {ss : List β} {i : Nat} {v : α}, Paired R vs ss → vs[i]? = some v → ∃ s, ss[i]? = some s ∧ R v s
  | [], [], i, v, .nil, e => by simp at e
  | _, _, 0, v, .cons r _, e => by
    have e' : _ = v := Option.some.inj e
    subst e'
    exact ⟨_, rfl, r⟩
  | _ :: vs, _ :: ss, i + 1, v, .cons _ p, e => pair_get (vs := vs) (ss := ss) (i := i) p (by simpa using e)
theorem pair_len {α β : Type} {R : α → β → Prop} : ∀ {vs : List α} {ss : List β}, Paired R vs ss → vs.length = ss.length
  | _, _, .nil => rfl
  | _, _, .cons _ p => congrArg (· + 1) (pair_len p)
theorem pair_mono {α β : Type} {R S : α → β → Prop} (k : ∀ a b, R a b → S a b) : ∀ {vs : List α} {ss : List β}, Paired R vs ss → Paired S vs ss
  | _, _, .nil => .nil
  | _, _, .cons r p => .cons (k _ _ r) (pair_mono k p)
theorem pair_app {α β : Type} {R : α → β → Prop} {us : List α} {ts : List β} (q : Paired R us ts) : ∀ {vs : List α} {ss : List β}, Paired R vs ss → Paired R (vs ++ us) (ss ++ ts)
  | _, _, .nil => q
  | _, _, .cons r p => .cons r (pair_app q p)
theorem dp_stp {K : PySem.W.Frag} {H : Hp} {t : Addr} {s : Stp} (h : SqT K H t (stpV s)) : Dp K H (.ref t) (stpD s) := by
  cases s with
  | turn => exact .tup h (.cons (.str _) .nil)
  | meet b n => exact .tup h (.cons (.str _) (.cons (.int _) .nil))
theorem shaped_stp (s : Stp) : SeqAt.shaped (stpD s) = true := by
  cases s with
  | turn => decide +kernel
  | meet b n => exact shaped_meet b n
def spEffL (TU : Addr) : Sp := fun vs H Q _ => ∃ (p : Addr) (ws : List V) (ss : List Stp) (c : Int), vs = [.ref p, .int c] ∧ H p = some (.lst ws) ∧ Paired (StepQ TU H) ws ss ∧ ∀ q H', Same H H' → H' q = some (.tup (smV (smEnd (smSteps c ss)))) → Q (.ref q) H'
def spNumQ (TU : Addr) : Sp := fun vs H Q _ => ∃ (v : V) (s : Stp) (c k : Int) (t : Bool), vs = [v, .int c, .bl t, .int k] ∧ StepQ TU H v s ∧ ∀ q H', Same H H' → H' q = some (.tup [.int (numF c t k s).1, .int (numF c t k s).2]) → Q (.ref q) H'
def stC (c k : Int) (ss : List Stp) (st : Stp) : Int × Int := fromF c (lowG (smEnd (smSteps c ss))) (highG (smEnd (smSteps c ss))) (numF c (smEnd (smSteps c ss)).turned k st).1 (numF c (smEnd (smSteps c ss)).turned k st).2
def spLead : Sp := fun vs H Q _ => ∃ (e : Addr) (m : Sm) (c a b : Int), vs = [.ref e, .int c, .int a, .int b] ∧ H e = some (.tup (smV m)) ∧ ∀ q H', Same H H' → H' q = some (.tup [.int (fromF c (lowG m) (highG m) a b).1, .int (fromF c (lowG m) (highG m) a b).2]) → Q (.ref q) H'
def spStartsQ (TU : Addr) : Sp := fun vs H Q _ => ∃ (t : Addr) (ws : List V) (ss : List Stp) (v : V) (st : Stp) (c k : Int), vs = [.ref t, .int c, v, .int k] ∧ H t = some (.lst ws) ∧ Paired (StepQ TU H) ws ss ∧ StepQ TU H v st ∧
  ∀ q H', Same H H' → H' q = some (.tup [.int (stC c k ss st).1, .int (stC c k ss st).2]) → Q (.ref q) H'
def leF (c k : Int) (ss : List Stp) (b : Bool) : Int × Int := fromF c (lowG (smEnd (smSteps c ss))) (highG (smEnd (smSteps c ss))) (if (b != (smEnd (smSteps c ss)).turned) = true then k else c - k) (if (b != (smEnd (smSteps c ss)).turned) = true then k else c - k)
def spLeave (TU : Addr) : Sp := fun vs H Q _ => ∃ (t : Addr) (ws : List V) (ss : List Stp) (b : Bool) (c k : Int), vs = [.ref t, .int c, .str (roomS b), .int k] ∧ H t = some (.lst ws) ∧ Paired (StepQ TU H) ws ss ∧
  ∀ q H', Same H H' → H' q = some (.tup [.int (leF c k ss b).1, .int (leF c k ss b).2]) → Q (.ref q) H'
section
variable {P : Program} {w : World} {K : PySem.W.Frag} {mg : Str → Option Value} {base : Heap} {C TU pS gS : Addr} {mc : Value}
theorem ok_effectL {f f2 f3 f4 : Addr} {fd : FuncData} (F : Fun K "effect_of" "effect_of" sEffect f fd) (T : Txt K mg C TU pS gS mc) (DA : Dn P w K mg base 1 "allowed_range" f2 spAllow)
    (DN : Dn P w K mg base 1 "narrowed" f3 spNarrow) (DE : Dn P w K mg base 1 "nearest" f4 spNear) : FnOk P w K mg base CX0 2 f fd ["steps", "chairs"] (spEffL TU) := by
  refine F.ok scEffect (fun vs H Q E h => ?_) (fun cdv A outer s H vs Q E hr h => ?_)
  · obtain ⟨p, ws, ss, c, rfl, _⟩ := h
    rfl
  · obtain ⟨p, ws, ss, c, rfl, hp, e3, k⟩ := h
    have tq : ∀ H, SqT K H TU [.str "turn"] := T.tT
    have r1 : Room 1 _ := hr
    refine ⟨_, pss_cons (ps_asg (pe_tup (pa_cons pe_int (pa_cons (pv 1) (pa_cons pe_int (pa_cons pe_non (pa_cons pe_bl pa_nil)))))) (pg_tup rfl (pgs_cons (pg_name (i := 2) scEffect.nd rfl (.inl rfl)) (pgs_cons (pg_name (i := 3) scEffect.nd rfl (.inl rfl)) (pgs_cons (pg_name (i := 4) scEffect.nd rfl (.inl rfl)) (pgs_cons (pg_name (i := 5) scEffect.nd rfl (.inl rfl)) (pgs_cons (pg_name (i := 6) scEffect.nd rfl (.inl rfl)) pgs_nil)))))))
      (pss_cons (ps_for PassesOwn.never rfl (pi_list (pv 0)) (pg_name (i := 7) scEffect.nd rfl (.inl rfl))
        (pss_cons (ps_if (pt_cmpR (op_eqD hr.units) (pv 7) (pe_glob (v := .ref TU) rfl T.gT rfl) (nomark _)) (pss_cons (ps_set (i := 6) scEffect.nd rfl (.inl rfl) (pe_not (pv 6))) (pss_one ps_continue)) pss_nil)
        (pss_cons (ps_asg (pe_callR DA.ok r1 rfl DA.at_ DA.kp pass0 (pa_cons (pv 7) (pa_cons (pv 1) (pa_cons (pv 6) pa_nil)))) (pg_tup rfl (pgs_cons (pg_name (i := 8) scEffect.nd rfl (.inl rfl)) (pgs_cons (pg_name (i := 9) scEffect.nd rfl (.inl rfl)) pgs_nil))))
        (pss_one (ps_if (pt_cmpR op_isN (pv 5) pe_non (nomark _))
          (pss_one (ps_asg (pe_callR DN.ok r1 rfl DN.at_ DN.kp pass0 (pa_cons (pv 2) (pa_cons (pv 3) (pa_cons (pv 8) (pa_cons (pv 9) pa_nil))))) (pg_tup rfl (pgs_cons (pg_name (i := 2) scEffect.nd rfl (.inl rfl)) (pgs_cons (pg_name (i := 3) scEffect.nd rfl (.inl rfl)) (pgs_cons (pg_name (i := 4) scEffect.nd rfl (.inl rfl)) (pgs_cons (pg_name (i := 5) scEffect.nd rfl (.inl rfl)) pgs_nil)))))))
          (pss_cons (ps_set (i := 10) scEffect.nd rfl (.inl rfl) (pe_callR DE.ok r1 rfl DE.at_ DE.kp pass0 (pa_cons (pv 5) (pa_cons (pv 8) (pa_cons (pv 9) pa_nil)))))
          (pss_cons (ps_aug (i := 4) scEffect.nd rfl (.inl rfl) (pe_callB call_abs (by rfl) T.b.abs (by decide +kernel) (pa_cons (pe_op op_sub (pv 10) (pv 5)) pa_nil)) ip_add)
          (pss_one (ps_set (i := 5) scEffect.nd rfl (.inl rfl) (pv 10))))))))))
      (pss_cons (ps_if (PW.pt (pw_and (pt_cmpR op_eq (pv 2) (pv 3) (nomark _)) (pw_and1 (pt_cmpR op_isN (pv 5) pe_non (nomark _))))) (pss_one (ps_set (i := 5) scEffect.nd rfl (.inl rfl) (pv 2))) pss_nil)
      (pss_one (ps_ret (pe_tup (pa_cons (pv 2) (pa_cons (pv 3) (pa_cons (pv 4) (pa_cons (pv 5) (pa_cons (pv 6) pa_nil)))))))))), ?_⟩
    refine ⟨_, rfl, by show 5 ≤ sizeLine; decide, fun t5 ht5 => ?_⟩
    have s2 := same_upd (o := .tup [.int 0, .int c, .int 0, .non, .bl false]) ht5
    refine ⟨t5, _, rfl, SqT.of upd_same, rfl, _, _, rfl, _, _, rfl, _, _, rfl, _, _, rfl, _, _, rfl, rfl, ?_⟩
    refine ⟨_, rfl, p, rfl, ⟨_, SqL.of (s2 _ _ hp)⟩, for_list (K := K) (a := p) (xs := ws) (fun i σ H' => ∃ (x7 x8 x9 x10 : Option V), σ = [some (.ref p), some (.int c), some (.int (smSteps c (ss.take i)).low), some (.int (smSteps c (ss.take i)).high), some (.int (smSteps c (ss.take i)).extra), some (goalV (smSteps c (ss.take i)).goal), some (.bl (smSteps c (ss.take i)).turned), x7, x8, x9, x10] ∧ Same (upd H t5 (.tup [.int 0, .int c, .int 0, .non, .bl false])) H')
      ⟨none, none, none, none, rfl, Same.refl _⟩ (fun i σ H' _ ⟨_, _, _, _, _, s3⟩ => SqL.of (s3 _ _ (s2 _ _ hp))) ?_ ?_⟩
    · rintro i v σ H2 hi ⟨x7, x8, x9, x10, rfl, s3⟩
      obtain ⟨st, hst, t, rfl, ht0⟩ := pair_get e3 hi
      have hsq : SqT K H2 t (stpV st) := stq_sq tq (stq_same ht0 (s2.trans s3))
      have em : smSteps c (ss.take (i + 1)) = smStep c (smSteps c (ss.take i)) st := by rw [take_more hst, smSteps_more]
      generalize smSteps c (ss.take i) = m at *
      obtain ⟨low, high, extra, goal, turned⟩ := m
      cases st with
      | turn =>
        refine ⟨_, rfl, .tuple [.str "turn"], .tuple [.str "turn"], .tup hsq (.cons (.str _) .nil), .tup (T.tT _) (.cons (.str _) .nil), by decide +kernel, by decide +kernel, _, rfl, ?_⟩
        refine ifT eqv_turn ⟨_, rfl, _, rfl, ?_⟩
        refine ⟨some (.ref t), x8, x9, x10, ?_, s3⟩
        rw [em]
        rfl
      | meet bb n =>
        refine ⟨_, rfl, .tuple [.str (roomS bb), .int n], .tuple [.str "turn"], .tup hsq (.cons (.str _) (.cons (.int _) .nil)), .tup (T.tT _) (.cons (.str _) .nil), shaped_meet bb n, by decide +kernel, _, rfl, ?_⟩
        refine ifF (eqv_meet bb n) ⟨_, rfl, _, rfl, _, rfl, _, bb, turned, c, n, rfl, ⟨t, rfl, stq_meet (stq_same ht0 (s2.trans s3))⟩, fun q H3 s4 hq => ?_⟩
        refine ⟨q, _, rfl, SqT.of hq, rfl, _, _, rfl, _, _, rfl, rfl, ?_⟩
        cases goal with
        | none =>
          refine ⟨_, rfl, rfl, _, rfl, ?_⟩
          refine ifT (decide_eq_true rfl) ⟨_, rfl, _, rfl, _, rfl, _, rfl, low, high, _, _, rfl, fun q2 H4 s5 hq2 => ?_⟩
          refine ⟨q2, _, rfl, SqT.of hq2, rfl, _, _, rfl, _, _, rfl, _, _, rfl, _, _, rfl, rfl, ?_⟩
          refine ⟨some (.ref t), some (.int (allowF c turned bb n).1), some (.int (allowF c turned bb n).2), x10, ?_, (s3.trans s4).trans s5⟩
          rw [em]
          rfl
        | some z =>
          refine ⟨_, rfl, rfl, _, rfl, ?_⟩
          refine ifF (by simp [goalV]) ⟨_, rfl, _, rfl, _, rfl, z, _, _, rfl, ?_⟩
          refine ⟨_, rfl, _, rfl, _, rfl, _, _, rfl, rfl, _, rfl, _, _, rfl, rfl, _, rfl, ?_⟩
          refine ⟨some (.ref t), some (.int (allowF c turned bb n).1), some (.int (allowF c turned bb n).2), some (.int (nearF z (allowF c turned bb n).1 (allowF c turned bb n).2)), ?_, s3.trans s4⟩
          rw [em]
          rfl
    · rintro σ H2 ⟨x7, x8, x9, x10, rfl, s3⟩
      rw [pair_len e3, List.take_length]
      generalize smSteps c ss = m at *
      obtain ⟨low, high, extra, goal, turned⟩ := m
      have fin : ∀ g : Option Int, smEnd ⟨low, high, extra, goal, turned⟩ = ⟨low, high, extra, g, turned⟩ → ∀ q, H2 q = none → Q (.ref q) (upd H2 q (.tup [.int low, .int high, .int extra, goalV g, .bl turned])) := fun g hg q hq => by
        refine k q _ ((s2.trans s3).trans (same_upd hq)) ?_
        rw [hg]
        exact upd_same
      refine ⟨_, rfl, _, rfl, rfl, _, rfl, ?_⟩
      by_cases q1 : low = high
      · refine ifT (by rw [q1]; exact decide_eq_true rfl) ⟨_, rfl, rfl, _, rfl, ?_⟩
        cases goal with
        | none =>
          refine ifT (decide_eq_true rfl) ⟨_, rfl, _, rfl, _, rfl, _, rfl, _, rfl, _, rfl, by show 5 ≤ sizeLine; decide, fun q hq => ?_⟩
          exact fin (some low) (by unfold smEnd; rw [if_pos ⟨q1, rfl⟩]) q hq
        | some z =>
          refine ifF (by simp [goalV]) ⟨_, rfl, _, rfl, _, rfl, _, rfl, _, rfl, by show 5 ≤ sizeLine; decide, fun q hq => ?_⟩
          exact fin (some z) (by unfold smEnd; rw [if_neg (fun h => nomatch h.2)]) q hq
      · refine ifF (decide_eq_false fun h => q1 (by injection h)) ?_
        refine iteF ⟨_, rfl, _, rfl, _, rfl, _, rfl, _, rfl, by show 5 ≤ sizeLine; decide, fun q hq => ?_⟩
        exact fin goal (by unfold smEnd; rw [if_neg (fun h => q1 h.1)]) q hq
abbrev s_numbers_that_carry : Stmt := top 31
abbrev n_numbers_that_carry : List Str := ["step", "chairs", "turned", "count", "least", "most", "number"]
theorem sc_numbers_that_carry : FnScope n_numbers_that_carry ["step", "chairs", "turned", "count"] (defScope s_numbers_that_carry) := ⟨rfl, rfl, rfl, by decide +kernel, rfl, by decide +kernel, by decide +kernel⟩
theorem ok_numbers_that_carry {f f_allowed_range : Addr} {fd : FuncData} (F : Fun K "numbers_that_carry" "numbers_that_carry" s_numbers_that_carry f fd) (T : Txt K mg C TU pS gS mc) (D_allowed_range : Dn P w K mg base 1 "allowed_range" f_allowed_range spAllow) : FnOk P w K mg base CX0 2 f fd ["step", "chairs", "turned", "count"] (spNumQ TU) := by
  refine F.ok sc_numbers_that_carry (fun vs H Q E h => ?_) (fun cdv A outer s H vs Q E hr h => ?_)
  · obtain ⟨v, s, c, k, t, rfl, _⟩ := h
    rfl
  · obtain ⟨v, st, c, k, tt, rfl, ⟨u, rfl, hu⟩, kk⟩ := h
    refine ⟨_, pss_cons (ps_if (pt_cmpR (op_eqD hr.units) (pv 0) (pe_glob (v := .ref TU) rfl T.gT rfl) (nomark _))
        (pss_one (ps_ret (pe_ifExp (pt_cmpR op_eq (pv 3) pe_int (nomark _)) (pe_tup (pa_cons pe_int (pa_cons (pv 1) pa_nil))) (pe_tup (pa_cons pe_int (pa_cons pe_int pa_nil)))))) pss_nil)
      (pss_cons (ps_asg (pe_callR D_allowed_range.ok (hr.mono (by decide)) rfl D_allowed_range.at_ D_allowed_range.kp pass0 (pa_cons (pv 0) (pa_cons (pv 1) (pa_cons (pv 2) pa_nil)))) (pg_tup rfl (pgs_cons (pg_name (i := 4) sc_numbers_that_carry.nd rfl (.inl rfl)) (pgs_cons (pg_name (i := 5) sc_numbers_that_carry.nd rfl (.inl rfl)) pgs_nil))))
      (pss_cons (ps_if (pt_cmpR op_eq (pv 3) pe_int (nomark _))
        (pss_one (ps_ret (pe_tup (pa_cons (pv 4) (pa_cons (pv 5) pa_nil))))) pss_nil)
      (pss_cons (ps_set (i := 6) sc_numbers_that_carry.nd rfl (.inl rfl) (pe_ifExp (pt_cmpR op_gt (pv 4) pe_int (nomark _)) (pe_op op_sub (pv 4) (pv 3)) (pe_op op_add (pv 5) (pv 3))))
      (pss_one (ps_ret (pe_tup (pa_cons (pv 6) (pa_cons (pv 6) pa_nil)))))))), ?_⟩
    have hsq := stq_sq T.tT hu
    refine ⟨_, rfl, stpD st, .tuple [.str "turn"], dp_stp hsq, .tup (T.tT _) (.cons (.str _) .nil), shaped_stp st, by decide +kernel, _, rfl, ?_⟩
    cases st with
    | turn =>
      refine ifT eqv_turn ⟨_, rfl, rfl, _, rfl, ?_⟩
      by_cases h : k = 0
      · subst h
        exact ifT (decide_eq_true rfl) ⟨_, rfl, by show 2 ≤ sizeLine; decide, fun q hq => kk q _ (same_upd hq) upd_same⟩
      · refine ifF (decide_eq_false fun e => h (by injection e)) ⟨by show 2 ≤ sizeLine; decide, fun q hq => kk q _ (same_upd hq) ?_⟩
        rw [upd_same]
        unfold numF
        rw [if_neg h]
    | meet b n =>
      refine ifF (eqv_meet b n) ⟨_, rfl, _, rfl, _, rfl, .ref u, b, tt, c, n, rfl, ⟨u, rfl, stq_meet hu⟩, fun q1 H1 s1 e1 => ⟨q1, _, rfl, SqT.of e1, rfl, _, _, rfl, _, _, rfl, rfl, ?_⟩⟩
      refine ⟨_, rfl, rfl, _, rfl, ?_⟩
      by_cases h : k = 0
      · subst h
        exact ifT (decide_eq_true rfl) ⟨_, rfl, _, rfl, by show 2 ≤ sizeLine; decide, fun q hq => kk q _ (s1.trans (same_upd hq)) upd_same⟩
      · refine ifF (decide_eq_false fun e => h (by injection e)) ⟨_, rfl, _, _, rfl, rfl, _, rfl, ?_⟩
        have en : numF c tt k (.meet b n) = (if (allowF c tt b n).1 > 0 then (allowF c tt b n).1 - k else (allowF c tt b n).2 + k, if (allowF c tt b n).1 > 0 then (allowF c tt b n).1 - k else (allowF c tt b n).2 + k) := by
          show (if k = 0 then _ else _) = _
          rw [if_neg h]
        rw [en] at kk
        by_cases h2 : 0 < (allowF c tt b n).1
        · rw [if_pos h2] at kk
          exact ifT (decide_eq_true h2) ⟨_, rfl, _, rfl, _, _, rfl, rfl, _, rfl, _, rfl, by show 2 ≤ sizeLine; decide, fun q hq => kk q _ (s1.trans (same_upd hq)) upd_same⟩
        · rw [if_neg h2] at kk
          exact ifF (decide_eq_false h2) ⟨_, rfl, _, rfl, _, _, rfl, rfl, _, rfl, _, rfl, by show 2 ≤ sizeLine; decide, fun q hq => kk q _ (s1.trans (same_upd hq)) upd_same⟩
abbrev s_starts_that_lead : Stmt := top 30
abbrev n_starts_that_lead : List Str := ["effect", "chairs", "least", "most", "low", "high", "extra", "goal", "turned", "least_start", "greatest_start"]
theorem sc_starts_that_lead : FnScope n_starts_that_lead ["effect", "chairs", "least", "most"] (defScope s_starts_that_lead) := ⟨rfl, rfl, rfl, by decide +kernel, rfl, by decide +kernel, by decide +kernel⟩
theorem ok_starts_that_lead {f : Addr} {fd : FuncData} (F : Fun K "starts_that_lead" "starts_that_lead" s_starts_that_lead f fd) (T : Txt K mg C TU pS gS mc) : FnOk P w K mg base CX0 1 f fd ["effect", "chairs", "least", "most"] spLead := by
  refine F.ok sc_starts_that_lead (fun vs H Q E h => ?_) (fun cdv A outer s H vs Q E hr h => ?_)
  · obtain ⟨e, m, c, a, b, rfl, _⟩ := h
    rfl
  · obtain ⟨e, m, c, a, b, rfl, he, kk⟩ := h
    refine ⟨_, pss_cons (ps_asg (pv 0) (pg_tup rfl (pgs_cons (pg_name (i := 4) sc_starts_that_lead.nd rfl (.inl rfl)) (pgs_cons (pg_name (i := 5) sc_starts_that_lead.nd rfl (.inl rfl)) (pgs_cons (pg_name (i := 6) sc_starts_that_lead.nd rfl (.inl rfl)) (pgs_cons (pg_name (i := 7) sc_starts_that_lead.nd rfl (.inl rfl)) (pgs_cons (pg_name (i := 8) sc_starts_that_lead.nd rfl (.inl rfl)) pgs_nil)))))))
      (C8.pss_cut (ps_if (pt_cmpR op_notN (pv 7) pe_non (nomark _))
        (pss_one (ps_asg2 (pv 7) (pg_name (i := 4) sc_starts_that_lead.nd rfl (.inl rfl)) (pg_name (i := 5) sc_starts_that_lead.nd rfl (.inl rfl)))) pss_nil)
      (pss_cons (ps_if (pt_cmpR op_gt (pe_callB (call_max2 rfl) (by rfl) T.b.max (by decide +kernel) (pa_cons (pv 2) (pa_cons (pv 4) pa_nil))) (pe_callB (call_min2 rfl) (by rfl) T.b.min (by decide +kernel) (pa_cons (pv 3) (pa_cons (pv 5) pa_nil))) (nomark _))
        (pss_one (ps_ret (pe_tup (pa_cons pe_int (pa_cons pe_int pa_nil))))) pss_nil)
      (pss_cons (ps_set (i := 9) sc_starts_that_lead.nd rfl (.inl rfl) (pe_ifExp (pt_cmpR op_gt (pv 2) (pv 4) (nomark _)) (pv 2) pe_int))
      (pss_cons (ps_set (i := 10) sc_starts_that_lead.nd rfl (.inl rfl) (pe_ifExp (pt_cmpR op_lt (pv 3) (pv 5) (nomark _)) (pv 3) (pv 1)))
      (pss_one (ps_ret (pe_tup (pa_cons (pv 9) (pa_cons (pv 10) pa_nil))))))))), ?_⟩
    refine ⟨_, rfl, e, _, rfl, SqT.of he, rfl, _, _, rfl, _, _, rfl, _, _, rfl, _, _, rfl, _, _, rfl, rfl, ?_⟩
    refine ⟨fun σ H' => σ = [some (.ref e), some (.int c), some (.int a), some (.int b), some (.int (lowG m)), some (.int (highG m)), some (.int m.extra), some (goalV m.goal), some (.bl m.turned), none, none] ∧ H' = H, ?_, ?_⟩
    · refine ⟨_, rfl, rfl, _, rfl, ?_⟩
      obtain ⟨low, high, extra, goal, turned⟩ := m
      cases goal with
      | none => exact ifF (by simp [goalV]) ⟨rfl, rfl⟩
      | some z => exact ifT (by simp [goalV]) ⟨_, rfl, rfl, rfl⟩
    rintro σ H6 ⟨rfl, rfl⟩
    refine ⟨_, rfl, _, rfl, _, _, rfl, _, rfl, _, rfl, _, _, rfl, _, _, rfl, rfl, _, rfl, ?_⟩
    by_cases h1 : (if highG m < b then highG m else b) < mx a (lowG m)
    · have ef : fromF c (lowG m) (highG m) a b = (1, 0) := by
        unfold fromF
        rw [if_pos h1]
      rw [ef] at kk
      exact ifT (decide_eq_true h1) ⟨by show 2 ≤ sizeLine; decide, fun q hq => kk q _ (same_upd hq) upd_same⟩
    · have ef : fromF c (lowG m) (highG m) a b = (if a > lowG m then a else 0, if b < highG m then b else c) := by
        unfold fromF
        rw [if_neg h1]
      rw [ef] at kk
      refine ifF (decide_eq_false h1) ⟨_, rfl, _, rfl, _, _, rfl, rfl, _, rfl, ?_⟩
      have fin : ∀ (x y : Int), x = (if a > lowG m then a else 0) → y = (if b < highG m then b else c) → ∀ q, H6 q = none → Q (.ref q) (upd H6 q (.tup [.int x, .int y])) := by
        rintro x y rfl rfl q hq
        exact kk q _ (same_upd hq) upd_same
      by_cases h2 : lowG m < a
      · refine ifT (decide_eq_true h2) ⟨_, rfl, _, rfl, _, rfl, _, _, rfl, rfl, _, rfl, ?_⟩
        by_cases h3 : b < highG m
        · exact ifT (decide_eq_true h3) ⟨_, rfl, _, rfl, _, rfl, by show 2 ≤ sizeLine; decide, fin _ _ (by rw [if_pos h2]) (by rw [if_pos h3])⟩
        · exact ifF (decide_eq_false h3) ⟨_, rfl, _, rfl, _, rfl, by show 2 ≤ sizeLine; decide, fin _ _ (by rw [if_pos h2]) (by rw [if_neg h3])⟩
      · refine ifF (decide_eq_false h2) ⟨_, rfl, _, rfl, _, _, rfl, rfl, _, rfl, ?_⟩
        by_cases h3 : b < highG m
        · exact ifT (decide_eq_true h3) ⟨_, rfl, _, rfl, _, rfl, by show 2 ≤ sizeLine; decide, fin _ _ (by rw [if_neg h2]) (by rw [if_pos h3])⟩
        · exact ifF (decide_eq_false h3) ⟨_, rfl, _, rfl, _, rfl, by show 2 ≤ sizeLine; decide, fin _ _ (by rw [if_neg h2]) (by rw [if_neg h3])⟩
abbrev s_starts_that_carry : Stmt := top 28
abbrev n_starts_that_carry : List Str := ["steps", "chairs", "step", "count", "effect", "least", "most"]
theorem sc_starts_that_carry : FnScope n_starts_that_carry ["steps", "chairs", "step", "count"] (defScope s_starts_that_carry) := ⟨rfl, rfl, rfl, by decide +kernel, rfl, by decide +kernel, by decide +kernel⟩
theorem ok_starts_that_carry {f f_effect_of f_numbers_that_carry f_starts_that_lead : Addr} {fd : FuncData} (F : Fun K "starts_that_carry" "starts_that_carry" s_starts_that_carry f fd) (D_effect_of : Dn P w K mg base 2 "effect_of" f_effect_of (spEffL TU)) (D_numbers_that_carry : Dn P w K mg base 2 "numbers_that_carry" f_numbers_that_carry (spNumQ TU)) (D_starts_that_lead : Dn P w K mg base 1 "starts_that_lead" f_starts_that_lead spLead) : FnOk P w K mg base CX0 3 f fd ["steps", "chairs", "step", "count"] (spStartsQ TU) := by
  refine F.ok sc_starts_that_carry (fun vs H Q E h => ?_) (fun cdv A outer s H vs Q E hr h => ?_)
  · obtain ⟨t, ws, ss, v, st, c, k, rfl, _⟩ := h
    rfl
  · obtain ⟨t, ws, ss, v, st, c, k, rfl, hT, hs, ⟨u, rfl, hu⟩, kk⟩ := h
    refine ⟨_, pss_cons (ps_set (i := 4) sc_starts_that_carry.nd rfl (.inl rfl) (pe_callR D_effect_of.ok (hr.mono (by decide)) rfl D_effect_of.at_ D_effect_of.kp pass0 (pa_cons (pv 0) (pa_cons (pv 1) pa_nil))))
      (pss_cons (ps_asg (pe_callR D_numbers_that_carry.ok (hr.mono (by decide)) rfl D_numbers_that_carry.at_ D_numbers_that_carry.kp pass0 (pa_cons (pv 2) (pa_cons (pv 1) (pa_cons (pe_ix ix_tup (pv 4) pe_int (fun _ _ => rfl)) (pa_cons (pv 3) pa_nil))))) (pg_tup rfl (pgs_cons (pg_name (i := 5) sc_starts_that_carry.nd rfl (.inl rfl)) (pgs_cons (pg_name (i := 6) sc_starts_that_carry.nd rfl (.inl rfl)) pgs_nil))))
      (pss_one (ps_ret (pe_callR D_starts_that_lead.ok (hr.mono (by decide)) rfl D_starts_that_lead.at_ D_starts_that_lead.kp pass0 (pa_cons (pv 4) (pa_cons (pv 1) (pa_cons (pv 5) (pa_cons (pv 6) pa_nil)))))))), ?_⟩
    refine ⟨_, rfl, _, rfl, t, ws, ss, c, rfl, hT, hs, fun q1 H1 s1 e1 => ?_⟩
    have kk2 : ∀ q H', Same H H' → H' q = some (.tup [.int (fromF c (lowG (smEnd (smSteps c ss))) (highG (smEnd (smSteps c ss))) (numF c (smEnd (smSteps c ss)).turned k st).1 (numF c (smEnd (smSteps c ss)).turned k st).2).1, .int (fromF c (lowG (smEnd (smSteps c ss))) (highG (smEnd (smSteps c ss))) (numF c (smEnd (smSteps c ss)).turned k st).1 (numF c (smEnd (smSteps c ss)).turned k st).2).2]) → Q (.ref q) H' := kk
    clear kk
    generalize smEnd (smSteps c ss) = m at *
    refine ⟨_, rfl, _, rfl, _, rfl, q1, _, _, _, rfl, rfl, SqT.of e1, at_of (j := 4) rfl rfl, _, rfl, .ref u, st, c, k, m.turned, rfl, ⟨u, rfl, stq_same hu s1⟩, fun q2 H2 s2 e2 => ⟨q2, _, rfl, SqT.of e2, rfl, _, _, rfl, _, _, rfl, rfl, ?_⟩⟩
    exact ⟨_, rfl, _, rfl, _, rfl, _, rfl, q1, m, c, _, _, rfl, s2 _ _ e1, fun q H' s' e => kk2 q H' ((s1.trans s2).trans s') e⟩
abbrev s_starts_that_leave : Stmt := top 29
abbrev n_starts_that_leave : List Str := ["steps", "chairs", "room", "count", "effect", "number"]
theorem sc_starts_that_leave : FnScope n_starts_that_leave ["steps", "chairs", "room", "count"] (defScope s_starts_that_leave) := ⟨rfl, rfl, rfl, by decide +kernel, rfl, by decide +kernel, by decide +kernel⟩
theorem ok_starts_that_leave {f f_effect_of f_starts_that_lead : Addr} {fd : FuncData} (F : Fun K "starts_that_leave" "starts_that_leave" s_starts_that_leave f fd) (D_effect_of : Dn P w K mg base 2 "effect_of" f_effect_of (spEffL TU)) (D_starts_that_lead : Dn P w K mg base 1 "starts_that_lead" f_starts_that_lead spLead) : FnOk P w K mg base CX0 3 f fd ["steps", "chairs", "room", "count"] (spLeave TU) := by
  refine F.ok sc_starts_that_leave (fun vs H Q E h => ?_) (fun cdv A outer s H vs Q E hr h => ?_)
  · obtain ⟨t, ws, ss, b, c, k, rfl, _⟩ := h
    rfl
  · obtain ⟨t, ws, ss, b, c, k, rfl, hT, hs, kk⟩ := h
    refine ⟨_, pss_cons (ps_set (i := 4) sc_starts_that_leave.nd rfl (.inl rfl) (pe_callR D_effect_of.ok (hr.mono (by decide)) rfl D_effect_of.at_ D_effect_of.kp pass0 (pa_cons (pv 0) (pa_cons (pv 1) pa_nil))))
      (pss_cons (ps_set (i := 5) sc_starts_that_leave.nd rfl (.inl rfl) (pe_ifExp (pt_cmpR op_ne (pe_cmpR op_eq (pv 2) pe_str (nomark _)) (pe_ix ix_tup (pv 4) pe_int (fun _ _ => rfl)) (nomark _)) (pv 3) (pe_op op_sub (pv 1) (pv 3))))
      (pss_one (ps_ret (pe_callR D_starts_that_lead.ok (hr.mono (by decide)) rfl D_starts_that_lead.at_ D_starts_that_lead.kp pass0 (pa_cons (pv 4) (pa_cons (pv 1) (pa_cons (pv 5) (pa_cons (pv 5) pa_nil)))))))), ?_⟩
    refine ⟨_, rfl, _, rfl, t, ws, ss, c, rfl, hT, hs, fun q1 H1 s1 e1 => ?_⟩
    unfold leF at kk
    generalize smEnd (smSteps c ss) = m at *
    refine ⟨_, rfl, rfl, _, rfl, q1, _, _, _, rfl, rfl, SqT.of e1, at_of (j := 4) rfl rfl, rfl, _, rfl, ?_⟩
    have e : (!decide (V.bl (decide (V.str (roomS b) = V.str "red")) = V.bl m.turned)) = (b != m.turned) := by
      rw [room_eq, bl_eq]
      rfl
    by_cases hb : (b != m.turned) = true
    · rw [if_pos hb] at kk
      exact ifT (e.trans hb) ⟨_, rfl, _, rfl, _, rfl, _, rfl, _, rfl, q1, m, c, _, _, rfl, e1, fun q H' s' e => kk q H' (s1.trans s') e⟩
    · rw [if_neg hb] at kk
      exact ifF (e.trans (by simpa using hb)) ⟨_, rfl, _, rfl, _, _, rfl, rfl, _, rfl, _, rfl, _, rfl, _, rfl, q1, m, c, _, _, rfl, e1, fun q H' s' e => kk q H' (s1.trans s') e⟩
end
end Cc

/-! Lists of texts as data; the signs of texts split and joined. -/
namespace Cc
open PySem PySem.Spec PyProof.Rows L2 TL
def okS (x : Str) : Prop := ∀ c ∈ tl x, c < 1114112
theorem strOk_of {x : Str} (h : okS x) : PyData.canLay0 (.str x) = true := by
  show (x.cps.all (· < 0x110000)) = true
  rw [← Array.all_toList]
  exact List.all_eq_true.mpr fun c hc => decide_eq_true (h c hc)
theorem strs_lay : ∀ {ws : List Str}, (∀ x ∈ ws, okS x) → PyData.canLayAll0 (ws.map PyData.str) = true ∧ PyData.depthAll (ws.map PyData.str) = 0
  | [], _ => ⟨rfl, rfl⟩
  | x :: ws, h => by
    obtain ⟨a, b⟩ := strs_lay (ws := ws) fun y hy => h y (List.mem_cons_of_mem _ hy)
    have c := strOk_of (h x List.mem_cons_self)
    refine ⟨?_, ?_⟩
    · show (PyData.canLay0 (.str x) && PyData.canLayAll0 (ws.map PyData.str)) = true
      rw [a, c]
      rfl
    · show max (PyData.depth (.str x)) (PyData.depthAll (ws.map PyData.str)) = 0
      rw [b]
      rfl
theorem strs_shaped {ws : List Str} (h : ∀ x ∈ ws, okS x) : SeqAt.shaped (.list (ws.map PyData.str)) = true := by
  obtain ⟨a, b⟩ := strs_lay h
  have : PyData.depth (.list (ws.map PyData.str)) = 1 := by
    show PyData.depthAll (ws.map PyData.str) + 1 = 1
    rw [b]
  unfold SeqAt.shaped
  rw [this]
  show (PyData.canLayAll0 (ws.map PyData.str) && _) = true
  rw [a]
  rfl
theorem strs_eqvAll : ∀ a b : List Str, PyData.eqvAll (a.map PyData.str) (b.map PyData.str) = decide (a = b)
  | [], [] => rfl
  | [], _ :: _ => rfl
  | _ :: _, [] => rfl
  | x :: a, y :: b => by
    show ((x == y) && PyData.eqvAll (a.map PyData.str) (b.map PyData.str)) = _
    rw [strs_eqvAll a b, Bool.eq_iff_iff]
    simp
theorem strs_eqv (a b : List Str) : PyData.eqv (.list (a.map PyData.str)) (.list (b.map PyData.str)) = decide (a = b) := strs_eqvAll a b
theorem dp_strs {K : PySem.W.Frag} {H : Hp} : ∀ ws : List Str, DpAll K H (ws.map V.str) (ws.map PyData.str)
  | [] => .nil
  | x :: ws => .cons (.str x) (dp_strs ws)
theorem spl_mem {S : List Nat} : ∀ {l acc : List Nat} {k : Nat} {p : List Nat} {c : Nat}, p ∈ spl S k acc l → c ∈ p → c ∈ acc ∨ c ∈ l
  | [], acc, k, p, c, hp, hc => by
    rw [spl_nil] at hp
    rw [List.mem_singleton.mp hp] at hc
    exact .inl hc
  | d :: r, acc, 0, p, c, hp, hc => by
    by_cases h : pre S (d :: r) = true
    · rw [spl_hit h] at hp
      rcases (List.mem_cons.mp hp) with rfl | hp
      · exact .inl hc
      · rcases spl_mem hp hc with z | z
        · cases z
        · exact .inr (List.mem_cons_of_mem _ z)
    · have h' : pre S (d :: r) = false := by simpa using h
      rw [spl_miss h'] at hp
      rcases spl_mem hp hc with z | z
      · rcases List.mem_append.mp z with z | z
        · exact .inl z
        · rw [(List.mem_singleton.mp z)]
          exact .inr List.mem_cons_self
      · exact .inr (List.mem_cons_of_mem _ z)
  | d :: r, acc, k + 1, p, c, hp, hc => by
    have hp' : p ∈ spl S k acc r := hp
    rcases spl_mem hp' hc with z | z
    · exact .inl z
    · exact .inr (List.mem_cons_of_mem _ z)
theorem split_ok {t y : Str} {s : Nat} (hy : tl y = [s]) (hk : y.cps.all (· < 256) = true) (h : okS t) : ∀ x ∈ Txt.split t y, okS x := fun x hx c hc => by
  have e := split_spl t y (by rw [hy]; simp) (kind_ok hk)
  have hm : tl x ∈ spl (tl y) 0 [] (tl t) := by
    rw [← e]
    exact List.mem_map.mpr ⟨x, hx, rfl⟩
  rcases spl_mem hm hc with z | z
  · cases z
  · exact h c z
theorem lines_ok {t : Str} (h : okS t) : ∀ x ∈ lines t, okS x := split_ok tl_nl (by decide +kernel) h
theorem words_ok {t : Str} (h : okS t) : ∀ x ∈ wordsB t, okS x := split_ok tl_sp (by decide +kernel) h
theorem joinL_mem {S : List Nat} : ∀ {l : List (List Nat)} {c : Nat}, c ∈ joinL S l → c ∈ S ∨ ∃ p ∈ l, c ∈ p
  | [], c, h => by cases h
  | [p], c, h => .inr ⟨p, List.mem_singleton.mpr rfl, h⟩
  | p :: q :: r, c, h => by
    have h' : c ∈ p ++ (S ++ joinL S (q :: r)) := h
    rcases List.mem_append.mp h' with z | z
    · exact .inr ⟨p, List.mem_cons_self, z⟩
    · rcases List.mem_append.mp z with z | z
      · exact .inl z
      · rcases joinL_mem (l := q :: r) z with z | ⟨x, hx, z⟩
        · exact .inl z
        · exact .inr ⟨x, List.mem_cons_of_mem _ hx, z⟩
theorem join_ok {y : Str} (hy : okS y) {l : List Str} (h : ∀ x ∈ l, okS x) : okS (Txt.join y l) := fun c hc => by
  rw [join_eq, tl_join] at hc
  rcases joinL_mem hc with z | ⟨p, hp, z⟩
  · exact hy c z
  · obtain ⟨x, hx, rfl⟩ := List.mem_map.mp hp
    exact h x hx c z
theorem okS_app {x y : Str} (hx : okS x) (hy : okS y) : okS (x ++ y) := fun c hc => by
  rw [tl_append] at hc
  exact (List.mem_append.mp hc).elim (hx c) (hy c)
theorem okS_of {x : Str} (h : (tl x).all (fun c => decide (c < 1114112)) = true) : okS x := fun c hc => of_decide_eq_true (List.all_eq_true.mp h c hc)
theorem num_ok (n : Nat) : okS (Str.ofString (toString ((n : Nat) : Int))) := fun c hc => by
  rw [tl_num] at hc
  have := numL_digits n c hc
  omega
/-- words of a line: the last of them, and one at a place -/
theorem last_at {ws : List Str} (h : ws ≠ []) : atI (ws.map V.str) (-1) = some (.str (lastW ws)) := by
  have e : ws = ws.dropLast ++ [lastW ws] := by
    unfold lastW
    rw [List.getLastD_eq_getLast?, List.getLast?_eq_some_getLast h]
    exact (List.dropLast_concat_getLast h).symm
  have e2 : ws.map V.str = ws.dropLast.map V.str ++ [V.str (lastW ws)] := by
    have := congrArg (List.map V.str) e
    rw [List.map_append] at this
    exact this
  rw [e2]
  exact atI_last _ _
theorem at0_at {ws : List Str} {i : Nat} (h : i < ws.length) : atI (ws.map V.str) (i : Nat) = some (.str (at0 ws i)) := by
  refine at_of (j := i) rfl ?_
  rw [List.getElem?_map, List.getElem?_eq_getElem h]
  unfold at0
  rw [List.getD_eq_getElem?_getD, List.getElem?_eq_getElem h]
  rfl
end Cc

/-! An own error class called with a text that is made on the way. -/
namespace Cc
open PySem PySem.Spec PyProof.Rows L2
section
variable {X : Cx} {C : Addr} {bmB : List Value} {B newId initId : String} {x : Str} {e : Expr} {ta : TA} {p pos : Pos}
theorem pmk_any (F : ExcBaseFacts B newId initId bmB) (q : PySem.W.excIn X.K C bmB newId = true) (gC : X.mg x = some (.ref C)) (kC : PySem.W.keepIn X.K (.ref C) = true) (r : Raises X (.ref C)) (hg : Gl X x) (ha : PA X [e] ta)
    (hs : starEach [e] X.env = (false, eval e X.env) :: starEach [] X.env := by rfl) (hp : (backTo pos (starEach [] X.env)).any (·.1) = false := by rfl) (hdb : (x == ("__debug__" : Str)) = false := by decide) :
    PMk X (.Call (.Name x p) [e] [] pos) (fun σ H Q => ta σ H fun vs H1 => (∃ v, vs = [v]) ∧ Q (.ref C) none H1) := by
  intro pins s σ H Q I h
  refine wpAny_Call_Name_kw (ld_glob I hg gC ?_ hdb); refine PySem.W.callWith_K (h₀ := X.base) I.ok.mod.kin kC (thn (ha.run pos pins s σ H _ I h) fun us z1 ⟨vs, H1, I1, r1, ⟨v, ev⟩, q1⟩ => ⟨I1.kIn, ?_⟩) hs hp
  subst ev
  obtain ⟨u, rfl, ru⟩ := r1.one
  show wpAny _ _ (call (.ref C) [u]) _ _ _; obtain ⟨bm, N, nm, qn, bs, hd, sn, sub, ab, col, dd, k0, k1, k2, k3, k5, mN, hC, hN, hni, T⟩ := exc_obj I1.kIn q
  exact wpAny_call_exc_subT F T hC hN hni (fun h' a hm => mk_of I1 hm r q1 (I1.hok.gone hm.new)) (by show 1 ≤ sizeLine; decide)
end
/-- what is asked of an own error class that the program raises -/
structure Err (K : PySem.W.Frag) (mg : Str → Option Value) (x : Str) (C : Addr) : Prop where
  at_ : mg x = some (.ref C)
  (kp : PySem.W.keepIn K (.ref C) = true)
  ex : ∃ bmB B newId initId, ExcBaseFacts B newId initId bmB ∧ PySem.W.excIn K C bmB newId = true
  sub : PySem.W.subIn K (.ref C) (.type "BaseException") = some true
  ty : PySem.W.typeIn K (.ref C) = some (.type "type")
theorem log_small {i : Int} (h0 : -(2 ^ 64) < i) (h1 : i < 2 ^ 64) : i.natAbs.log2 < 1920 := by
  by_cases q : i.natAbs = 0
  · rw [q]
    decide
  · have h : i.natAbs < 2 ^ 64 := by omega
    exact Nat.lt_trans ((Nat.log2_lt q).mpr h) (by decide)
/-- a def of the module that may raise -/
structure DnX (P : Program) (w : World) (K : PySem.W.Frag) (mg : Str → Option Value) (base : Heap) (k : Nat) (x : Str) (f : Addr) (sp : Sp) : Prop where
  at_ : mg x = some (.ref f)
  kp : PySem.W.keepIn K (Value.ref f) = true
  ok : FnR P w K mg base (L2.CX P w) k f sp
/-- a block that is not reached -/
theorem pss_never {X : Cx} {rest : List Stmt} : PSs X rest (fun _ _ _ => False) := ⟨fun _ _ _ _ _ _ h => h.elim⟩
end Cc

/-! A class over ValueError called with nothing but one keyword: BaseException.__new__ takes it and drops it, then the class's own __init__ has it. -/
namespace PySem
namespace EiX
open Builtin Builtin.ObjectAttr PySem.HandSPX
/-- the written parts of a class over ValueError -/
structure Parts where
  (nm q : Str)
  ns : Addr
  (bs bm sub : List Value)
  hd : Bool
  sn : List Str
  ab : Bool
  col : Option Bool
  dd : Option Addr
  (k0 k1 k2 k3 k5 : Option Value)
/-- at C: that class -/
abbrev Parts.at (p : Parts) (h : Heap) (C : Addr) : Prop := h.get? C = some (excClassObj p.nm p.q C p.ns p.bs p.bm p.hd p.sn p.sub p.ab p.col p.dd p.k0 p.k1 p.k2 p.k3 p.k5 "ValueError.__new__")
theorem Parts.has {p : Parts} (ve : refsVE p.bm = true) {C : Addr} {t : String} {b : Bool} (e : veTail.contains (.type t) = b) : (Value.ref C :: p.bm).contains (.type t) = b := by
  rw [List.contains_cons, refsVE_contains t p.bm ve, e]
  cases b <;> rfl
section
variable {prog : Program} {w : World} {M : Model} {A : Around} {Er : Value → Shared → Prop} {R : Result → Shared → Prop} {h : Heap} {gn : Array GenState} {dw : Drawn} {tn : Nat} {sys : OsState} {C fI : Addr} {p : Parts} {fld : Str} {v : Value}
/-- the row of __new__ lets a keyword pass -/
theorem new_lets (ve : refsVE p.bm = true) (cl : p.at h C) {Q : Unit → Shared → Prop} (q : Q () ⟨h, gn, dw, tn, sys⟩) : wpAny M A (checkBuiltinCall "ValueError.__new__" ⟨[.ref C], [(fld, v)]⟩) Q Er ⟨h, gn, dw, tn, sys⟩ := by
  have over : (Value.ref C :: p.bm).contains (.type "ValueError") = true := Parts.has ve (by decide +kernel)
  have star := F.excBase_ValueError.noStar
  simp only [checkBuiltinCall, F.excBase_ValueError.newKind, F.excBase_ValueError.newSplit, F.excBase_ValueError.newRow]
  repeat (first
    | refine wpAny_loadPart_at cl ?_
    | (refine wpAny_isSubtype_exc cl ?_; rw [over])
    | refine wpAny_staticBase_exc cl ?_
    | refine wpAny_madeBy_exc cl ?_
    | simp only [bne_self_eq_false, Bool.false_eq_true, if_false]
    | wp_step)
  exact q
/-- so does type.__call__'s -/
theorem call_lets (cl : p.at h C) {Q : Unit → Shared → Prop} (q : Q () ⟨h, gn, dw, tn, sys⟩) : wpAny M A (checkBuiltinCall "type.__call__" ⟨[.ref C], [(fld, v)]⟩) Q Er ⟨h, gn, dw, tn, sys⟩ := by
  have under := tc_sub
  have ty : (⟨h, gn, dw, tn, sys⟩ : Shared).TypeIs (.ref C) "type" := ⟨_, cl, rfl⟩
  simp only [checkBuiltinCall, tc_split, tc_kind]
  repeat (any_goals (first
    | assumption
    | with_reducible refine wpAny_loadPart_at cl ?_
    | with_reducible refine wpAny_onRaise ?_
    | with_reducible refine wpAny_map ?_
    | wp_step))
/-- the heap with the empty args and the new exception -/
abbrev fresh2 (h : Heap) (C : Addr) : Heap := (h.push (W.kdv_tup [])).push (excO C h.objs.size)
/-- ValueError.__new__(C, fld = v) -/
theorem new_run (ve : refsVE p.bm = true) (cl : p.at h C) (q : R (.ok (.ret (.ref (h.objs.size + 1)))) ⟨fresh2 h C, gn, dw, tn, sys⟩) : codeAny (model prog w) A (.builtin "ValueError.__new__" ⟨[.ref C], [(fld, v)]⟩) R ⟨h, gn, dw, tn, sys⟩ := by
  have ends := F.excBase_ValueError.ends
  have few : ([] : List Value).length ≤ sizeLine := Nat.zero_le _
  have c1 : (Value.ref C :: p.bm).contains (.type "ValueError") = true := Parts.has ve (by decide +kernel)
  have c2 : (Value.ref C :: p.bm).contains (.type "AttributeError") = false := Parts.has ve (by decide +kernel)
  have c3 : (Value.ref C :: p.bm).contains (.type "NameError") = false := Parts.has ve (by decide +kernel)
  refine codeAny_builtinAt F.excBase_ValueError.entry ?_; unfold Builtin.«BaseException.__new__»; refine wpAt_bind ?_
  show wpAt _ _ _ (stack >>= fun _ => _) _ _ _
  refine wpAt_bind (wpAt_stack fun _ below => wpAt_of_wpAny ?_); wp_walk
  refine wpAt_of_wpAny ?_; rw [F.excBase_ValueError.owner]
  repeat (first
    | with_reducible refine wpAny_madeHere_exc F.excBase_ValueError.canon cl ?_
    | with_reducible refine wpAny_loadPart_at cl ?_
    | (with_reducible refine wpAny_isSubtype_exc cl ?_; first | rw [c1] | rw [c2] | rw [c3])
    | wp_step)
  show R _ _; rw [Heap.size_push]; exact q
/-- what __init__ gave back -/
def Given (Q : Fin → Shared → Prop) (Er : Value → Shared → Prop) (x : Addr) : Result → Shared → Prop := fun r s' => match r with
  | .ok (.ret u) => u = .none ∧ Q (.done (.ret (.ref x))) s'
  | .ok _ => False
  | .error e => Er e s'
theorem type_run (ve : refsVE p.bm = true) (cl : p.at h C) (li : W.Looks (model prog w) h (typeLookup (.ref C) "__init__") (some (.ref fI))) (lb : ∀ x, W.Looks (model prog w) h (bindSpecial (.ref fI) x) (.ref fI, [x])) {Q : Fin → Shared → Prop}
    (q : codeAny (model prog w) A (.call (.ref fI) ⟨[.ref (h.objs.size + 1)], [(fld, v)]⟩) (Given Q Er (h.objs.size + 1)) ⟨fresh2 h C, gn, dw, tn, sys⟩) :
    wpAny (model prog w) A (Builtin.«type.__call__» ⟨[.ref C], [(fld, v)]⟩) Q Er ⟨h, gn, dw, tn, sys⟩ := by
  repeat (first | with_reducible refine wpAny_loadPart_at cl ?_ | with_reducible refine wpAny_madeBy_exc cl ?_ | wp_step)
  refine codeAny_call_builtin_code (Code.quiet_builtin _ F.excBase_ValueError.quiet) (new_lets ve cl (new_run ve cl ?_))
  show wpAny _ _ _ _ _ _
  have up : ∀ b o, h.get? b = some o → (fresh2 h C).get? b = some o := fun b o e => Heap.get?_push_of_some _ (Heap.get?_push_of_some _ e)
  have cl2 : p.at (fresh2 h C) C := up _ _ cl
  have new2 : (fresh2 h C).get? (h.objs.size + 1) = some (excO C h.objs.size) := by heap_get
  have own : (Value.ref C :: p.bm).contains (.ref C) = true := by simp
  have li2 := li.keeps up; have lb2 := (lb (.ref (h.objs.size + 1))).keeps up
  unfold isInstance
  repeat (first | with_reducible refine wpAny_loadPart_at new2 ?_ | (with_reducible refine wpAny_isSubtype_exc cl2 ?_; rw [own]) | wp_step)
  show wpAny _ _ (typeLookup (.ref C) _) _ _ _; refine li2.at (wpAny_holding (wpAny_bind (lb2.at (wpAny_bind (wpAny_call (codeAny_mono q fun r s' z => ?_))))))
  match r, z with
  | .error _, z => exact z
  | .ok (.ret _), ⟨e, z⟩ =>
    subst e
    first | exact wpAny_pure (wpAny_pure z) | (wp_walk; exact z)
/-- C(fld = v) -/
theorem made_run (ve : refsVE p.bm = true) (cl : p.at h C) (li : W.Looks (model prog w) h (typeLookup (.ref C) "__init__") (some (.ref fI))) (lb : ∀ x, W.Looks (model prog w) h (bindSpecial (.ref fI) x) (.ref fI, [x]))
    (q : codeAny (model prog w) (A.under (.builtin "type.__call__" ⟨[.ref C], [(fld, v)]⟩)) (.call (.ref fI) ⟨[.ref (h.objs.size + 1)], [(fld, v)]⟩) (W.InitBack (h.objs.size + 1) R) ⟨fresh2 h C, gn, dw, tn, sys⟩) :
    codeAny (model prog w) A (.call (.ref C) ⟨[], [(fld, v)]⟩) R ⟨h, gn, dw, tn, sys⟩ := by
  have l1 := tc_lookup; have l2 := tc_bind (.ref C)
  have ty : (⟨h, gn, dw, tn, sys⟩ : Shared).TypeIs (.ref C) "type" := ⟨_, cl, rfl⟩
  refine codeAny_of_tree (show wpAny _ _ (callAny (.ref C) _) _ _ _ from ?_)
  repeat (any_goals (first | assumption | with_reducible refine wpAny_loadPart_at cl ?_ | wp_step))
  refine ⟨rfl, codeAny_call_builtin_at (Code.quiet_builtin _ (by decide +kernel)) entry_typeCall (call_lets cl (type_run ve cl li lb (codeAny_mono q fun r s' z => ?_)))⟩
  match r, z with
  | .error _, z => exact z
  | .ok (.ret _), z => exact z
end
end EiX
end PySem

/-! The __init__ of an own error: super().__init__(f'.. {row} ..'); self.row = row. -/
namespace PySem
namespace ErX
open PySem.W PySem.Calls PyProof.Rows PySem.HandSPX PySem.EiX
def iA (p1 p2 : Pos) : Arguments := { posonlyargs := [], args := [{ arg := "self", annotation := none, pos := p1 }], vararg := none, kwonlyargs := [{ arg := "row", annotation := none, pos := p2 }], kw_defaults := [none], kwarg := none, defaults := [] }
def iB (t1 t2 : Str) (a1 a2 a3 a4 a5 a6 a7 a8 a9 a10 b1 b2 b3 b4 : Pos) : List Stmt := [
  .Expr (.Call (.Attribute (.Call (.Name "super" a1) [] [] a2) "__init__" a3) [.JoinedStr [.Constant (.str t1) 0 a4, .FormattedValue (.Name "row" a5) (-1) none a6, .Constant (.str t2) 0 a7] a8] [] a9) a10,
  .Assign [.Attribute (.Name "self" b1) "row" b2] (.Name "row" b3) b4]
def iS : Scope := { kind := .function, names := [(PySem.Str.ofString "self", .local), (PySem.Str.ofString "row", .local), (PySem.Str.ofString "__class__", .free), (PySem.Str.ofString "super", .globalImplicit)], isGenerator := false, isCoroutine := false, more := [] }
/-- what is asked of such a class, at C, and of its __init__, at fI -/
structure EiTxt (P : Program) (K : Frag) (mg : Str → Option Value) (x : Str) (C fI : Addr) : Prop where
  at_ : mg x = some (.ref C)
  (kp : keepIn K (.ref C) = true)
  cls : ∃ nm q N bs bm sn sub ab col dd k0 k1 k2 k3 k5, K.lookup C = some (excClassObj nm q C N bs bm true sn sub ab col dd k0 k1 k2 k3 k5 "ValueError.__new__") ∧ refsVE bm = true
  sa : findIn K (.ref C) "__setattr__" = some (some (.builtin "object.__setattr__"))
  noN : findIn K (.ref C) "row" = some none
  iC : findIn K (.ref C) "__init__" = some (some (.ref fI))
  tC : typeIn K (.ref fI) = some (.type "function")
  sub : subIn K (.ref C) (.type "BaseException") = some true
  ty : typeIn K (.ref C) = some (.type "type")
  sve : subIn K (.ref C) (.type "ValueError") = some true
  sup : ks_superIn K C C "__init__" = some (some (.builtin "ValueError.__init__"))
  opq : nsIn K cStatics "thirdparty.any" = some none
  nsu : mg "super" = none
  htop : (P.main.scope.names.lookup ("super" : Str)).isSome = false
  fn : ∃ (cc cda : Addr) (oc : Value) (od : Option Addr) (kV doc pm : Value) (an : Option Addr) (ct : Value) (osl : Array (Option Value)) (qual t1 t2 : Str) (p1 p2 a1 a2 a3 a4 a5 a6 a7 a8 a9 a10 b1 b2 b3 b4 : Pos) (cl ccl : Value) (cld cdd : Option Addr) (csl ccs : Array (Option Value)) (vs : Array Value) (file : Str) (tf : Tok),
    K.lookup fI = some ⟨oc, od, .func (ksFn "__init__" qual (iA p1 p2) (iB t1 t2 a1 a2 a3 a4 a5 a6 a7 a8 a9 a10 b1 b2 b3 b4) iS .none kV doc pm an (.ref cda) ct cc), osl⟩ ∧ codeIn K (.ref cda) qual = true ∧
    K.lookup cc = some ⟨cl, cld, .cell (some (.ref C)), csl⟩ ∧ K.lookup cda = some ⟨ccl, cdd, .fields vs, ccs⟩ ∧ vs[2]? = some (.str file tf) ∧ ((P.main.file : Str) == file) = true ∧ t1.length ≤ 1000 ∧ t2.length ≤ 1000 ∧ (a3.endLine == a9.line) = true
/-- what __init__ leaves of a fresh exception at x -/
structure InitEnd (h h' : Heap) (x C dx : Addr) (v : Value) : Prop where
  keep : ∀ b o, b ≠ x → h.get? b = some o → h'.get? b = some o
  obj : ∃ t1 : Addr, h'.get? x = some { cls := .ref C, dict := some dx, data := .fields #[.ref t1, .none, .none, .none, .bool false, .none] }
  dbig : h.objs.size ≤ dx
  dne : dx ≠ x
  ns : h'.Ns1 dx (fun y => if y = "row" then some v else none)
theorem ldC {M : Model} {s : Shared} {env : Env} {m : Str → Option Value} {x : Str} {pos : Pos} {v : Value} {Q : Value → Shared → Prop} {A : Around} {E : Value → Shared → Prop} (hn : s.heap.Ns env.locals m) (hv : m x = some v) (h : Q v s)
    (hk : env.scope.kind = .function := by rfl) (hl : env.kindOf x = some .local := by rfl) (hd : (x == ("__debug__" : Str)) = false := by decide) :
    wpAny M A (eval (.Name x pos) env) Q E s := wpAny_Name (wpAny_loadName_local hk hl hn hv h) hd
/-- super().__init__ bound to the new exception, called -/
theorem call_mw {prog : Program} {w : World} {A : Around} {Er : Value → Shared → Prop} {h : Heap} {gn : Array GenState} {dw : Drawn} {tn : Nat} {sys : OsState} {C u e t0 : Addr} {p : Parts} {rest : List Value} {Q : Value → Shared → Prop}
    (cl : p.at h C) (he : h.get? e = some (excO C t0)) (hu : h.get? u = some (kxs_mw "ValueError.__init__" e)) (hrest : rest.length ≤ sizeLine)
    (hq : ∀ h' t1, (∀ b o, b ≠ e → h.get? b = some o → h'.get? b = some o) → h'.get? e = some (excO C t1) → Q .none ⟨h', gn, dw, tn, sys⟩) :
    wpAny (model prog w) A (call (.ref u) rest) Q Er ⟨h, gn, dw, tn, sys⟩ := by
  have isW : (Value.type "method-wrapper" == Value.type "method" || Value.type "method-wrapper" == Value.type "builtin_function_or_method" || Value.type "method-wrapper" == Value.type "method-wrapper") = true := by decide
  refine wpAny_call (codeAny_of_tree (show wpAny _ A.in1 (callAny (.ref u) ⟨rest, []⟩) _ _ _ from ?_))
  simp only [callAny]; refine wpAny_bind (wpAny_load hu ?_); simp only [kxs_mw, isW, if_true]
  refine KFB.if_so (by decide) (wpAny_bind (check_bound_init F.excBase_ValueError.toExcCallFacts cl he rfl (wpAny_bind (wpAny_pure (wpAny_pure ⟨plainId_quiet F.excBase_ValueError.init.plain _, codeAny_builtin F.excBase_ValueError.initEntry ?_⟩)))))
  exact exc_init_tree (cls := .ref C) (t0 := t0) (dv := none) (c2 := .none) (c3 := .none) (b4 := .bool false) he hrest fun h' k e' t' => hq h' _ k e'
theorem mc_eq {ob : Expr} {nme : Str} {vs : List Expr} {a3 a8 a9 : Pos} {env : Env} (hl : (a3.endLine == a9.line) = true) : eval (.Call (.Attribute ob nme a3) [.JoinedStr vs a8] [] a9) env = (do
    let ov ← attributeBase ob nme env (eval ob env)
    standAt a3.atName
    let (f, first) ← holding [ov] (getMethod ov nme (do return (← importBound ob env).getD true))
    callWith a9 f first (backTo a9 (starEach [.JoinedStr vs a8] env)) []) := by
  rw [arm_eval_Call]
  have e : methodCallForm (([Expr.JoinedStr vs a8] : List Expr).length + ([] : List Keyword).length) (backTo a9 (starEach [.JoinedStr vs a8] env)) (backToKw a9 (keywordEach [] env)) = true := by rfl
  unfold methodCall
  rw [e]
  unfold calleeOf methodCallPos
  rw [hl]
  rfl
theorem log_small {i : Int} (h0 : -(2 ^ 64) < i) (h1 : i < 2 ^ 64) : i.natAbs.log2 < 1920 := Cc.log_small h0 h1
theorem text_bound {i : Int} (h0 : -(2 ^ 64) < i) (h1 : i < 2 ^ 64) : (Str.ofString (toString i)).length ≤ 2000 := by
  have e := int_text_length_le (k := 1920) (by decide) (log_small h0 h1)
  rw [PySem.ofString_length]
  omega
theorem empty_len : Str.empty.length = 0 := by decide +kernel
section
variable {prog : Program} {w : World} {A : Around} {R : Result → Shared → Prop} {s : Shared} {K : Frag} {mg mb : Str → Option Value} {X : Str} {C fI : Addr}
theorem idx_init (T : EiTxt prog K mg X C fI) {x t0 : Addr} {i : Int} {tk0 : Tok} (KX : K.In s.heap) (hlim : s.heap.NoLimit) (hg : s.heap.Ns mainGlobals mg) (hb : s.heap.Ns builtinsNs mb) (hsu : mb "super" = some (.type "super"))
    (hx : s.heap.get? x = some (excO C t0)) (hnx : K.lookup x = none) (hroom : A.depth < recursionLimit) (hi : -(2 ^ 64) < i ∧ i < 2 ^ 64)
    (hq : ∀ h' tk dx, InitEnd s.heap h' x C dx (.int i tk0) → R (.ok (.ret .none)) { s with heap := h', toks := tk }) :
    codeAny (model prog w) A (.call (.ref fI) ⟨[.ref x], [("row", .int i tk0)]⟩) R s := by
  obtain ⟨cc, cda, oc, od, kV, doc, pm, an, ct, osl, qual, t1, t2, p1, p2, a1, a2, a3, a4, a5, a6, a7, a8, a9, a10, b1, b2, b3, b4, cl, ccl, cld, cdd, csl, ccs, vs, file, tf, ho, hcd, hcc, hcda, hvs, hfile, l1, l2, hln⟩ := T.fn
  obtain ⟨nm, q, N, bs, bm, sn, sub, ab, col, dd, k0, k1, k2, k3, k5, hC, hbm⟩ := T.cls
  have hcl : clsIn K C = some { name := nm, bases := bs, mro := .ref C :: bm, ns := N, qualname := q, hasDict := true, slotNames := sn, subclasses := sub, abstract := ab, collection := col, hasDel := false } := by unfold clsIn; rw [hC] <;> rfl
  have hmro : mroIn K C (.ref C) = some true := by
    unfold mroIn
    rw [hcl, Option.bind_some, if_neg (show ¬ (List.isEmpty (Value.ref C :: bm) = true) from Bool.false_ne_true)]
    simp
  have hxC : x ≠ C := fun z => by rw [z, hC] at hnx; cases hnx
  refine ks_codeAny_call_defAt (fd := ksFn "__init__" qual (iA p1 p2) (iB t1 t2 a1 a2 a3 a4 a5 a6 a7 a8 a9 a10 b1 b2 b3 b4) iS .none kV doc pm an (.ref cda) ct cc) (body := iB t1 t2 a1 a2 a3 a4 a5 a6 a7 a8 a9 a10 b1 b2 b3 b4) (binds := [("self", .ref x), ("row", .int i tk0)])
    hroom (KX _ _ ho) rfl hlim (codeRec_of KX hcd) rfl (BindsTo.of_eq (by first | rfl | with_unfolding_all rfl)) (show ∀ y ∈ iS.names, y.2 ≠ .cell by decide) (fun y hy => ?_) (fun h₀ hns hk => ?_)
  · rcases (List.mem_cons.mp hy) with rfl | hy
    · rfl
    · rw [List.mem_singleton.mp hy]
      rfl
  · have KX₀ : K.In h₀ := KX.keeps hk
    have hns' := hns
    have hself : ([("self", .ref x), ("row", .int i tk0)] : List (Str × Value)).reverse.lookup ("self" : Str) = some (Value.ref x) := by first | rfl | with_unfolding_all rfl | kernel_rfl
    have hidx : ([("self", .ref x), ("row", .int i tk0)] : List (Str × Value)).reverse.lookup ("row" : Str) = some (Value.int i tk0) := by first | rfl | with_unfolding_all rfl | kernel_rfl
    refine ks_wpAt_execs_cons (ks_wpAt_Expr_any (ks_wpAt_MethodCall ?_ (mc_eq hln)))
    refine ks_wpAt_super_base (f := fI) (cc := cda) (of := _) (oc := _) (vs := vs) (file := file) (tf := tf) rfl rfl (by decide) rfl (KX₀ _ _ ho) rfl rfl rfl (KX₀ _ _ hcda) rfl hvs hfile T.htop ?_
    refine ks_loadName_global rfl rfl (loadGlobal_builtin (hg.keeps hk) T.nsu (hb.keeps hk) hsu ⟨rfl, ?_⟩)
    refine wpAny_loadName_free rfl rfl rfl ⟨_, KX₀ _ _ hcc, rfl⟩ ?_
    refine wpAny_loadName_local rfl rfl hns hself ?_
    refine ks_wpAny_isType_cls (KX₀ _ _ hC) rfl ⟨rfl, ?_⟩
    refine ks_wpAny_call_super (KX₀ _ _ hC) rfl (hk _ _ hx) rfl (fun c z => nomatch z) (looks_mroIn KX₀ hmro) (fun h₁ e₁ kk₁ => ?_)
    have KX₁ : K.In h₁ := KX₀.keeps kk₁
    have hx₁ : h₁.get? x = some (excO C t0) := kk₁ _ _ (hk _ _ hx)
    have I₁ : InstAt h₁ x (excO C t0) C none := ⟨hx₁, rfl, rfl, trivial⟩
    have hso := e₁
    have hIV : Looks (model prog w) h₁ (isInstance (.ref x) (.type "ValueError")) true := I₁.type.andThen (looks_subIn KX₁ T.sve)
    have hsup : alongIn K "__init__" (((Value.ref C :: bm).dropWhile (· != .ref C)).drop 1) = some (some (.builtin "ValueError.__init__")) := by
      have z := T.sup
      unfold ks_superIn at z
      rw [hcl] at z
      exact z
    refine kxs_getMethod kxs_ValueError hso (looks_opaque KX₁ T.opq) (l₀ := .ref C :: bm) (fun A Q E s k q => wpAny_bind ((looks_clsIn KX₁ hcl) A _ E s k (wpAny_pure q))) rfl KX₁ hsup hIV hxC (by decide) ?_
    have k₂ : ∀ b o, h₁.get? b = some o → (h₁.push (kxs_mw "ValueError.__init__" x)).get? b = some o := fun b o e => Heap.get?_push_of_some _ e
    refine kxs_callWith (i := "ValueError.__init__") (x := x) rfl (evalArgs_plain (spliced_cons ?_))
    have li := text_bound hi.1 hi.2
    refine JoinedStr_many (pos := a8) (joinParts_cons ?_)
    refine wpAny_Constant_str (k := 0) (pos := a4) ⟨?_, joinParts_cons ?_⟩
    · simp only [Str.length_append, sizeLine_eq, empty_len]
      omega
    refine FormattedValue_plain (pos := a6) (ldC (pos := a5) (hns.keeps fun b o e => k₂ b o (kk₁ b o e)) hidx (formatField_int_small (log_small hi.1 hi.2) ⟨?_, joinParts_cons ?_⟩))
    · simp only [Str.length_append, sizeLine_eq, empty_len]
      omega
    refine wpAny_Constant_str (k := 0) (pos := a7) ⟨?_, joinParts_nil ?_ ?_⟩
    · simp only [Str.length_append, sizeLine_eq, empty_len]
      omega
    · refine spliced_nil ⟨Heap.get?_push_at rfl rfl, ?_⟩
      refine call_mw (p := ⟨nm, q, N, bs, bm, sub, true, sn, ab, col, dd, k0, k1, k2, k3, k5⟩) (k₂ _ _ (KX₁ _ _ hC)) (k₂ _ _ hx₁) (Heap.get?_push_at rfl rfl) (by show 1 ≤ sizeLine; rw [sizeLine_eq]; decide) (fun h₃ t3 k₃ hx₃ => ?_)
      have kk : ∀ b o, b ≠ x → s.heap.get? b = some o → h₃.get? b = some o := fun b o hb e => k₃ b o hb (k₂ b o (kk₁ b o (hk b o e)))
      have KX₃ : K.In h₃ := fun b o e => kk b o (fun z => by rw [z] at e; rw [e] at hnx; cases hnx) (KX b o e)
      have hLx : s.heap.objs.size ≠ x := Nat.ne_of_gt (Heap.lt_size hx)
      obtain ⟨oL, esL, epL, hoL, rL⟩ := hns
      have hns₃ : h₃.Ns s.heap.objs.size (fun y => ([("self", .ref x), ("row", .int i tk0)] : List (Str × Value)).reverse.lookup y) := ⟨oL, esL, epL, k₃ _ _ hLx (k₂ _ _ (kk₁ _ _ hoL)), rL⟩
      refine ks_wpAt_execs_cons (wpAt_of_wpAny (plainObj_wpAny_Assign_Attribute ?_))
      refine ldC hns₃ hidx (ldC hns₃ hself ?_)
      refine set_plain KX₃ (ox := excO C t3) (od := none) ⟨hx₃, rfl, rfl, trivial⟩ T.sa ?_
      refine exc_osa KX₃ hx₃ hcl (show refsVE (.ref C :: bm) = true from hbm) rfl T.noN (fun h₄ tk₄ dx k₄ dn dne hx₄ hn₄ => ?_)
      refine wpAt_of_wpAny (wpAny_execs_nil (hq h₄ tk₄ dx ⟨fun b o hb e => k₄ b o hb (kk b o hb e), ⟨_, hx₄⟩, ?_, dne, hn₄⟩))
      have z : s.heap.objs.size < h₃.objs.size := Heap.lt_size (k₃ _ _ hLx (k₂ _ _ (kk₁ _ _ hoL)))
      exact Nat.le_of_lt (Nat.lt_of_lt_of_le z dn)
    · simp only [Str.length_append, sizeLine_eq, empty_len]
      omega
end
end ErX
end PySem

/-! X(index = e), an own error made. -/
namespace PySem
namespace ErX
open PySem.EiX
open PySem.W PySem.Calls PyProof.Rows PySem.HandSPX
/-- a made error -/
structure OwnMade (h h' : Heap) (e C d : Addr) (v : Value) : Prop where
  keep : ∀ b o, h.get? b = some o → h'.get? b = some o
  new : h.objs.size ≤ e
  obj : ∃ oe vs, h'.get? e = some oe ∧ oe.cls = .ref C ∧ oe.dict = some d ∧ oe.data = .fields vs ∧ vs[1]? = some .none
  dbig : h.objs.size ≤ d
  dne : d ≠ e
  ns : h'.Ns1 d (fun y => if y = "row" then some v else none)
section
variable {prog : Program} {w : World} {A : Around} {R : Result → Shared → Prop} {s : Shared} {K : Frag} {mg mb : Str → Option Value} {X : Str} {C fI : Addr}
theorem idx_made (T : EiTxt prog K mg X C fI) {i : Int} {tk0 : Tok} (KX : K.In s.heap) (hlim : s.heap.NoLimit) (hg : s.heap.Ns mainGlobals mg) (hb : s.heap.Ns builtinsNs mb) (hsu : mb "super" = some (.type "super")) (hroom : A.depth + 1 < recursionLimit) (hi : -(2 ^ 64) < i ∧ i < 2 ^ 64)
    (hq : ∀ h' tk e d, OwnMade s.heap h' e C d (.int i tk0) → R (.ok (.ret (.ref e))) { s with heap := h', toks := tk }) :
    codeAny (model prog w) A (.call (.ref C) ⟨[], [("row", .int i tk0)]⟩) R s := by
  obtain ⟨nm, q, N, bs, bm, sn, sub, ab, col, dd, k0, k1, k2, k3, k5, hC, hbm⟩ := T.cls
  obtain ⟨hp, g, dr, tk, os⟩ := s
  have k : ∀ b o, hp.get? b = some o → ((hp.push (kdv_tup [])).push (excO C hp.objs.size)).get? b = some o := fun b o e => Heap.get?_push_of_some _ (Heap.get?_push_of_some _ e)
  have hget : ((hp.push (kdv_tup [])).push (excO C hp.objs.size)).get? (hp.objs.size + 1) = some (excO C hp.objs.size) := by heap_get
  have hnx : K.lookup (hp.objs.size + 1) = none := by
    cases e : K.lookup (hp.objs.size + 1) with
    | none => rfl
    | some o =>
      have z : hp.get? (hp.objs.size + 1) = some o := KX _ _ e
      exact absurd (Nat.lt_of_succ_lt (Heap.lt_size z)) (Nat.lt_irrefl _)
  refine made_run (p := ⟨nm, q, N, bs, bm, sub, true, sn, ab, col, dd, k0, k1, k2, k3, k5⟩) hbm (KX _ _ hC) (looks_findIn KX T.iC) (fun self => bind_fn KX self T.tC) ?_
  refine idx_init (s := ⟨(hp.push (kdv_tup [])).push (excO C hp.objs.size), g, dr, tk, os⟩) T (KX.keeps k) (hlim.keeps k) (hg.keeps k) (hb.keeps k) hsu hget hnx ?_ hi fun h' tk' dx ⟨k', ⟨t1, hx⟩, dn, dne, hns⟩ => ?_
  · show A.depth + 1 < recursionLimit
    exact hroom
  · have old : ∀ b o, hp.get? b = some o → h'.get? b = some o := fun b o e => k' b o (Nat.ne_of_lt (Nat.lt_succ_of_lt (Heap.lt_size e))) (k b o e)
    have z : hp.objs.size + 1 + 1 ≤ dx := by
      first
        | (simpa only [Heap.size_push] using dn)
        | exact dn
        | (have q := dn; rw [Heap.size_push, Heap.size_push] at q; exact q)
    exact ⟨rfl, hq h' tk' (hp.objs.size + 1) dx ⟨old, Nat.le_succ _, ⟨_, _, hx, rfl, rfl, rfl, rfl⟩, Nat.le_trans (Nat.le_trans (Nat.le_succ _) (Nat.le_succ _)) z, dne, hns⟩⟩
end
end ErX
end PySem
namespace Cc
open PySem PySem.Spec PyProof.Rows L2
theorem relO_row {v : V} {v' : Value} (r : RelV v v') (f : Str) : RelO (List.lookup f [(("row" : Str), v)]) (if f = "row" then some v' else none) := by
  by_cases hw : f = "row"
  · subst hw
    rw [if_pos rfl]
    have q : List.lookup ("row" : Str) [(("row" : Str), v)] = some v := by simp [List.lookup]
    rw [q]
    exact r
  · rw [if_neg hw]
    have qw : (f == ("row" : Str)) = false := by simpa using hw
    have q2 : List.lookup f [(("row" : Str), v)] = none := by simp [List.lookup, qw]
    rw [q2]
    trivial
/-- X(index = e) -/
def tMkrow (C : Addr) (ta : TA) : L2.St → Hp → XK → Prop := fun σ H Q => ta σ H fun vs H1 => ∃ i : Int, vs = [.int i] ∧ (-(2 ^ 64) < i ∧ i < 2 ^ 64) ∧ ∀ d, H1 d = none → Q (.ref C) (some d) (upd H1 d (.xd [(("row" : Str), .int i)]))
section
variable {X : Cx}
theorem pmk_row {x : Str} {C fI : Addr} {e : Expr} {te : TE} {p kpos pos : Pos} {k : Nat} (T : PySem.ErX.EiTxt X.prog X.K X.mg x C fI) (hr : Room k X.A) (he : PE X e te) (hg : Gl X x) (hdb : (x == ("__debug__" : Str)) = false := by decide)
    (hall : (backToKw pos (keywordEach [⟨some "row", e, kpos⟩] X.env)).all (·.1.isSome) = true := by rfl) (hks : (backToKw pos (keywordEach [⟨some "row", e, kpos⟩] X.env)).filterMap (·.1) = [("row" : Str)] := by rfl)
    (hpl : ((backTo pos (starEach [] X.env)).any (·.1) || (backToKw pos (keywordEach [⟨some "row", e, kpos⟩] X.env)).any (·.1.isNone)) = false := by rfl) :
    PMk X (.Call (.Name x p) [] [⟨some "row", e, kpos⟩] pos) (tMkrow C (tCons te tNil)) := by
  intro pins s σ H Q I h
  refine wpAny_Call_Name_kw (ld_glob I hg T.at_ ?_ hdb)
  refine PySem.W.callWith_KW0 (h₀ := X.base) I.ok.mod.kin T.kp hall ?_ hpl
  refine thn ((pk_cons he pk_nil).run pos pins s σ H _ I h) fun ws s1 ⟨vs, H1, I1, r1, i, ev, hi, q1⟩ => ⟨I1.kIn, ?_⟩
  subst ev
  rw [hks]
  cases r1 with
  | cons rv rn =>
    rename_i v' us'
    cases rn
    obtain ⟨tk0, rfl⟩ := rv
    show wpAny _ _ (call (.ref C) [] [("row", .int i tk0)]) _ _ _
    have hlim := I1.nolimit
    obtain ⟨mb, hb1, hb2⟩ := I1.mod.blt
    have G := I1.mod.glob.keeps I1.bk
    have B := hb1.keeps I1.bk
    obtain ⟨hp, g, dr, tk, os⟩ := s1
    refine wpAny_call (PySem.ErX.idx_made T I1.kIn hlim G B ((hb2 _ (by decide)).trans (by first | rfl | decide +kernel)) (by have := hr.dp; omega) hi fun h' tk' e d M => ?_)
    show MkP X pins σ Q (.ref e) ⟨h', g, dr, tk', os⟩
    obtain ⟨oe, fv, hoe, hc, hd, hdat, h1⟩ := M.obj
    have hns := M.ns
    obtain ⟨G', g1, g2⟩ := restrict h' fun b => decide (b ≠ e)
    have gk : ∀ b, b ≠ e → G'.get? b = h'.get? b := fun b hb => g1 b (decide_eq_true hb)
    have ge : G'.get? e = none := g2 e (by simp)
    have old : ∀ b o, hp.get? b = some o → G'.get? b = some o := fun b o q => (gk b (Nat.ne_of_lt (Nat.lt_of_lt_of_le (Heap.lt_size q) M.new))).trans (M.keep b o q)
    have ob : ObjOk X.prog X.w (upd H1 d (.xd [(("row" : Str), .int i)])) G' d (.xd [(("row" : Str), .int i)]) :=
      ⟨_, hns.at (fun o q => (gk d M.dne).trans q), fun f => relO_row (v := .int i) (v' := .int i tk0) ⟨tk0, rfl⟩ f⟩
    have J : Inv X pins σ (upd H1 d (.xd [(("row" : Str), .int i)])) ⟨G', g, dr, tk', os⟩ := I1.laid (t' := tk') old M.dbig ob
    refine ⟨e, oe, fv, ⟨G', g, dr, tk', os⟩, _, .ref C, some d, rfl, J, fun b o q => ?_, ge, hoe, ⟨hc, hd⟩, hdat, h1, ?_, rfl, I1.bare, raises_own T.sub T.ty, q1 d (I1.hok.fresh M.dbig)⟩
    · by_cases hb : b = e
      · have q' : G'.get? b = some o := q
        rw [hb, ge] at q'; cases q'
      · exact (gk b hb).symm.trans q
    · rw [upd_ne (Ne.symm M.dne)]
      exact I1.hok.fresh M.new
end
end Cc

/-! Daybooks: rows read. -/
namespace Cc
open PySem PySem.Spec PyProof.Rows L2 TL
theorem putF_skip {f g : Str} {v x : V} {r : List (Str × V)} (h : ¬ g = f) : putF f v ((g, x) :: r) = (g, x) :: putF f v r := if_neg h
theorem putF_hit {f : Str} {v x : V} {r : List (Str × V)} : putF f v ((f, x) :: r) = (f, v) :: r := if_pos rfl
theorem putF_nil {f : Str} {v : V} : putF f v [] = [(f, v)] := rfl
theorem lkS {f g : Str} {x : V} {r : List (Str × V)} {u : Option V} (h : (f == g) = false) (k : r.lookup f = u) : ((g, x) :: r).lookup f = u := by
  rw [List.lookup, h]
  exact k
theorem lkZ {f : Str} {x : V} {r : List (Str × V)} : ((f, x) :: r).lookup f = some x := by
  rw [List.lookup, beq_self_eq_true f]
theorem lkN {f : Str} : ([] : List (Str × V)).lookup f = none := rfl
theorem same_made {H : Hp} {x dx C : Addr} (hx : H x = none) (hdx : H dx = none) : Same H (upd (upd H dx (.own x)) x (.ins C dx [])) := fun b o e => by
  rw [upd_ne (ne_of_none e hx), upd_ne (ne_of_none e hdx)]
  exact e
theorem same_but {H H1 H2 : Hp} {x : Addr} (hx : H x = none) (s : Same H H1) (b : But x H1 H2) : Same H H2 := fun c o e => b _ _ (ne_of_none e hx) (s _ _ e)
/-- an entry: its words, its step, its number -/
structure Ent where
  ws : List Str
  st : Option Stp
  no : Option Int
def needV (ws : List Str) : Int := (intL (tl (at0 ws 1))).getD 0
def entF (ws : List Str) : Ent := if isTurnW ws = true then ⟨ws, some .turn, none⟩ else if hasW ws = true then ⟨ws, none, intL (tl (lastW ws))⟩ else ⟨ws, some (.meet (decide (at0 ws 0 = "red")) (needV ws)), intL (tl (lastW ws))⟩
structure NTxt (K : PySem.W.Frag) (CE : Addr) : Prop where
  cl : Cls K CE
  a0 : NoAttr K CE "words"
  a1 : NoAttr K CE "step"
  a2 : NoAttr K CE "number"
abbrev enL (lw : Addr) (sv : V) (no : Option Int) : List (Str × V) := [("words", .ref lw), ("step", sv), ("number", goalV no)]
def EnSt (TU : Addr) (H : Hp) (sv : V) : Option Stp → Prop
  | none => sv = .non
  | some s => StepQ TU H sv s
/-- what an entry keeps to -/
def EntOk (e : Ent) : Prop := e.ws ≠ [] ∧ (e.st = none → isRoom (at0 e.ws 0) = true)
def EntQ (CE TU : Addr) (H : Hp) (v : V) (e : Ent) : Prop := ∃ p dx lw sv, v = .ref p ∧ H p = some (.ins CE dx (enL lw sv e.no)) ∧ H lw = some (.lst (e.ws.map V.str)) ∧ EnSt TU H sv e.st ∧ EntOk e
def spEntInit (CE : Addr) : Sp := fun vs H Q _ => ∃ (x dx lw : Addr) (sv : V) (no : Option Int), vs = [.ref x, .ref lw, sv, goalV no] ∧ H x = some (.ins CE dx []) ∧ ∀ H', But x H H' → H' x = some (.ins CE dx (enL lw sv no)) → Q .non H'
def spEntryIn (CE TU : Addr) : Sp := fun vs H Q _ => ∃ (x : Str) (c : Int), vs = [.str x, .int c] ∧ okS x ∧ x.length ≤ 600 ∧ 0 ≤ c ∧ c ≤ 1000000000000000000 ∧
  (rowOk c (wordsB x) = true → ∀ v H', Same H H' → EntQ CE TU H' v (entF (wordsB x)) → Q v H') ∧ (rowOk c (wordsB x) = false → ∀ H', Same H H' → Q .non H')
theorem mk_ent {CE x dx lw : Addr} {sv : V} {no : Option Int} {H1 : Hp} {R : Hp → Prop} {E : XK} (hx : H1 x = none) (hdx : H1 dx = none) (k : ∀ H', Same H1 H' → H' x = some (.ins CE dx (enL lw sv no)) → R H') :
    spEntInit CE (.ref x :: [.ref lw, sv, goalV no]) (upd (upd H1 dx (.own x)) x (.ins CE dx [])) (fun v H2 => v = .non ∧ R H2) E :=
  ⟨x, dx, lw, sv, no, rfl, upd_same, fun H' b ex => ⟨rfl, k _ (fun c o e => b _ _ (ne_of_none e hx) (same_made hx hdx _ _ e)) ex⟩⟩
theorem known_eq (x : Str) : known x = (decide (x = "?") || inR 1000000000000000000 (intL (tl x))) := by
  unfold known
  rw [inR_intL]
theorem room_in {x : Str} : inV (.str x) [.str "red", .str "blue"] = isRoom x := by
  have e : ∀ a b : Str, eqV (.str a) (.str b) = decide (b = a) := fun a b => by
    show (a == b) = _
    rw [Bool.eq_iff_iff]
    exact ⟨fun h => decide_eq_true (eq_of_beq h).symm, fun h => by rw [of_decide_eq_true h]; exact beq_self_eq_true a⟩
  show (eqV (.str "red") (.str x) || (eqV (.str "blue") (.str x) || false)) = _
  rw [e, e, Bool.or_false]
  rfl
theorem room_name {x : Str} (h : isRoom x = true) : roomS (decide (x = "red")) = x := by
  by_cases c : x = "red"
  · rw [decide_eq_true c]
    exact c.symm
  · rw [decide_eq_false c]
    unfold isRoom at h
    rw [decide_eq_false c, Bool.false_or] at h
    exact (of_decide_eq_true h).symm
section
variable {P : Program} {w : World} {K : PySem.W.Frag} {mg : Str → Option Value} {base : Heap} {C CE CX CD TU pS gS : Addr} {mc : Value}
abbrev s_Entry___init__ : Stmt := inClass (top 38) 0
abbrev n_Entry___init__ : List Str := ["self", "words", "step", "number"]
theorem sc_Entry___init__ : FnScope n_Entry___init__ ["self", "words", "step", "number"] (defScope s_Entry___init__) := ⟨rfl, rfl, rfl, by decide +kernel, rfl, by decide +kernel, by decide +kernel⟩
theorem ok_Entry___init__ {f : Addr} {fd : FuncData} (F : Fun K "__init__" "Entry.__init__" s_Entry___init__ f fd) (N : NTxt K CE) : FnOk P w K mg base CX0 1 f fd ["self", "words", "step", "number"] (spEntInit CE) := by
  refine F.ok sc_Entry___init__ (fun vs H Q E h => ?_) (fun cdv A outer s H vs Q E hr h => ?_)
  · obtain ⟨x, dx, lw, sv, no, rfl, _⟩ := h
    rfl
  · obtain ⟨x, dx, lw, sv, no, rfl, hx, k⟩ := h
    refine ⟨_, pss_cons (ps_fld (pv 0) (pv 1) rfl)
      (pss_cons (ps_fld (pv 0) (pv 2) rfl)
      (pss_one (ps_fld (pv 0) (pv 3) rfl))), ?_⟩
    refine ⟨_, rfl, _, rfl, x, CE, dx, [], rfl, hx, N.cl, N.a0, by decide, ?_⟩
    rw [putF_nil]
    refine ⟨_, rfl, _, rfl, x, CE, dx, _, rfl, upd_same, N.cl, N.a1, by show 1 < 1000; decide, ?_⟩
    rw [putF_skip (by decide), putF_nil]
    refine ⟨_, rfl, _, rfl, x, CE, dx, _, rfl, upd_same, N.cl, N.a2, by show 2 < 1000; decide, ?_⟩
    rw [putF_skip (by decide), putF_skip (by decide), putF_nil]
    exact k _ (fun b o n z => by rw [upd_ne n, upd_ne n, upd_ne n]; exact z) upd_same
abbrev s_entry_in : Stmt := top 41
abbrev n_entry_in : List Str := ["line", "chairs", "words", "number", "need"]
theorem sc_entry_in : FnScope n_entry_in ["line", "chairs"] (defScope s_entry_in) := ⟨rfl, rfl, rfl, by decide +kernel, rfl, by decide +kernel, by decide +kernel⟩
theorem ok_entry_in {f f_integer_in fEi fNO : Addr} {fd : FuncData} (F : Fun K "entry_in" "entry_in" s_entry_in f fd) (T : Txt K mg C TU pS gS mc) (g_UNKNOWN : ∃ u, mg "UNKNOWN" = some u ∧ RelV (.str "?") u) (D_integer_in : Dn P w K mg base 1 "integer_in" f_integer_in spIntIn) (ME : Mk K CE fEi) (GE : FnR P w K mg base CX0 1 fEi (spEntInit CE)) (gE : mg "Entry" = some (.ref CE)) (DO : Dn P w K mg base 1 "is_number" fNO spIsNumO) : FnOk P w K mg base CX0 3 f fd ["line", "chairs"] (spEntryIn CE TU) := by
  refine F.ok sc_entry_in (fun vs H Q E h => ?_) (fun cdv A outer s H vs Q E hr h => ?_)
  · obtain ⟨x, c, rfl, _⟩ := h
    rfl
  · obtain ⟨x, c, rfl, ox, lx, c0, c1, k1, k2⟩ := h
    obtain ⟨u_UNKNOWN, m_UNKNOWN, r_UNKNOWN⟩ := g_UNKNOWN
    refine ⟨_, pss_cons (ps_set (i := 2) sc_entry_in.nd rfl (.inl rfl) (pe_split (pv 0) pe_str))
      (pss_cons (ps_if (pt_cmpR (op_eqD hr.units) (pv 2) (pe_lst (pa_cons pe_str pa_nil)) (nomark _))
        (pss_one (ps_ret (StX.pe_makeR ME GE (hr.mono (by decide)) rfl gE pass0 (pa_cons (pv 2) (pa_cons (pe_glob (v := .ref TU) rfl T.gT rfl) (pa_cons pe_non pa_nil)))))) pss_nil)
      (pss_cons (ps_set (i := 3) sc_entry_in.nd rfl (.inl rfl) (pe_callR D_integer_in.ok (hr.mono (by decide)) rfl D_integer_in.at_ D_integer_in.kp pass0 (pa_cons (pe_ix ix_list (pv 2) (pe_un un_neg pe_int) (fun _ _ => rfl)) pa_nil)))
      (C8.pss_cut (ps_if (PW.pt (pw_and (pt_cmpR op_ne (pe_ix ix_list (pv 2) (pe_un un_neg pe_int) (fun _ _ => rfl)) (pe_glob rfl m_UNKNOWN r_UNKNOWN) (nomark _)) (pw_and1 (pt_not (pt_val (pe_callR DO.ok (hr.mono (by decide)) rfl DO.at_ DO.kp pass0 (pa_cons (pv 3) (pa_cons pe_int (pa_cons (ClX.pe_cval (pe_glob (v := .ref C) rfl T.gP rfl)) pa_nil)))))))))
        (pss_one (ps_ret pe_non)) pss_nil)
      (C8.pss_cut (ps_if (pt_cmpR op_notIn_seq (pe_ix ix_list (pv 2) pe_int (fun _ _ => rfl)) (pe_tup (pa_cons pe_str (pa_cons pe_str pa_nil))) (by rfl))
        (pss_one (ps_ret pe_non)) pss_nil)
      (C8.pss_cut (ps_if (PW.pt (pw_and (pt_cmpR op_eq (pe_callB call_len_seq (by rfl) T.b.len PySem.boot_len (pa_cons (pv 2) pa_nil)) pe_int (nomark _)) (pw_and1 (pt_cmpR op_eq (pe_ix ix_list (pv 2) pe_int (fun _ _ => rfl)) pe_str (nomark _)))))
        (pss_one (ps_ret (StX.pe_makeR ME GE (hr.mono (by decide)) rfl gE pass0 (pa_cons (pv 2) (pa_cons pe_non (pa_cons (pv 3) pa_nil)))))) pss_nil)
      (C8.pss_cut (ps_if (PW.pt (pw_or (pt_cmpR op_ne (pe_callB call_len_seq (by rfl) T.b.len PySem.boot_len (pa_cons (pv 2) pa_nil)) pe_int (nomark _)) (pw_or1 (pt_cmpR op_ne (pe_ix ix_list (pv 2) pe_int (fun _ _ => rfl)) pe_str (nomark _)))))
        (pss_one (ps_ret pe_non)) pss_nil)
      (pss_cons (ps_set (i := 4) sc_entry_in.nd rfl (.inl rfl) (pe_callR D_integer_in.ok (hr.mono (by decide)) rfl D_integer_in.at_ D_integer_in.kp pass0 (pa_cons (pe_ix ix_list (pv 2) pe_int (fun _ _ => rfl)) pa_nil)))
      (pss_one (ps_ret (pe_ifExp (pt_val (pe_callR DO.ok (hr.mono (by decide)) rfl DO.at_ DO.kp pass0 (pa_cons (pv 4) (pa_cons pe_int (pa_cons (pv 1) pa_nil))))) (StX.pe_makeR ME GE (hr.mono (by decide)) rfl gE pass0 (pa_cons (pv 2) (pa_cons (pe_tup (pa_cons (pe_ix ix_list (pv 2) pe_int (fun _ _ => rfl)) (pa_cons (pv 4) pa_nil))) (pa_cons (pv 3) pa_nil)))) pe_non)))))))))), ?_⟩
    obtain ⟨wt, wne⟩ := words_tot x
    have wok := words_ok ox
    have wl : ∀ y ∈ wordsB x, y.length ≤ 600 := fun y hy => by
      have := tot_mem hy
      omega
    refine ⟨_, rfl, ⟨x, rfl⟩, x, _, rfl, rfl, by decide +kernel, Nat.le_trans (Nat.add_le_add_right lx 2) (by decide), fun l hl => ?_⟩
    have s1 := same_upd (o := .lst ((wordsB x).map V.str)) hl
    have e1 := upd_same (H := H) (a := l) (o := .lst ((wordsB x).map V.str))
    generalize upd H l (.lst ((wordsB x).map V.str)) = H1 at *
    generalize wordsB x = ws at *
    have w0 : 0 < ws.length := List.length_pos_iff.mpr wne
    have lastL : (lastW ws).length ≤ 600 := wl _ (by
      unfold lastW
      rw [List.getLastD_eq_getLast?, List.getLast?_eq_some_getLast wne]
      exact List.getLast_mem wne)
    have lw : (((ws.map V.str).length : Nat) : Int) = (ws.length : Int) := by rw [List.length_map]
    obtain ⟨u2, cv2⟩ := T.cc
    refine ⟨_, rfl, by show 1 ≤ sizeLine; decide, fun p hp => ⟨_, _, .lst (SqL.of ((same_upd hp) _ _ e1)) (dp_strs ws), .lst (SqL.of upd_same) (.cons (.str _) .nil), strs_shaped wok, by decide +kernel, _, rfl, ?_⟩⟩
    have s2 := s1.trans (same_upd (o := .lst [.str "turn"]) hp)
    have e2 := (same_upd (o := .lst [.str "turn"]) hp) _ _ e1
    generalize upd H1 p (.lst [.str "turn"]) = H2 at *
    have q1 : PyData.eqv (.list (ws.map PyData.str)) (.list [.str "turn"]) = isTurnW ws := strs_eqv ws [Str.ofString "turn"]
    cases hT : isTurnW ws with
    | true =>
      have eE : entF ws = ⟨ws, some .turn, none⟩ := if_pos hT
      have ok : rowOk c ws = true := by
        unfold rowOk
        rw [hT]
        rfl
      rw [eE] at k1
      exact ifT (q1.trans hT) ⟨_, rfl, fun y dy hy hdy _ => mk_ent (no := none) hy hdy fun H' s3 ex => k1 ok _ H' (s2.trans s3) ⟨y, dy, l, .ref TU, rfl, ex, s3 _ _ e2, ⟨TU, rfl, .inr ⟨rfl, rfl⟩⟩, wne, fun z => nomatch z⟩⟩
    | false =>
      refine ifF (q1.trans hT) ⟨_, rfl, _, rfl, l, _, _, _, rfl, rfl, SqL.of e2, last_at wne, lastW ws, rfl, lastL, fun H3 s3 => ?_⟩
      have s13 := s2.trans s3
      have e3 := s3 _ _ e2
      generalize en : intL (tl (lastW ws)) = no at *
      refine ⟨fun σ H' => σ = [some (.str x), some (.int c), some (.ref l), some (goalV no), none] ∧ H' = H3 ∧ known (lastW ws) = true, ?_, ?_⟩
      · have kn := known_eq (lastW ws)
        rw [en] at kn
        refine ⟨_, rfl, _, rfl, l, _, _, _, rfl, rfl, SqL.of e3, last_at wne, rfl, _, rfl, ?_⟩
        by_cases cq : lastW ws = "?"
        · refine ifF (by rw [str_ne, decide_eq_true cq]; rfl) (iteF ⟨rfl, rfl, ?_⟩)
          rw [kn, decide_eq_true cq]
          rfl
        · refine ifT (by rw [str_ne, decide_eq_false cq]; rfl) ⟨_, rfl, C, _, _, _, rfl, T.rd, cv2, no, 1000000000000000000, rfl, _, rfl, ?_⟩
          rw [decide_eq_false cq, Bool.false_or] at kn
          cases hn : inR 1000000000000000000 no with
          | true => exact iteF ⟨rfl, rfl, kn.trans hn⟩
          | false =>
            refine iteT (k2 ?_ H3 s13)
            unfold rowOk
            rw [hT, kn, hn]
            rfl
      rintro σ H4 ⟨rfl, rfl, kn⟩
      refine ⟨fun σ H' => σ = [some (.str x), some (.int c), some (.ref l), some (goalV no), none] ∧ Same H4 H' ∧ isRoom (at0 ws 0) = true, ?_, ?_⟩
      · refine ⟨_, rfl, l, _, _, _, rfl, rfl, SqL.of e3, at0_at (i := 0) w0, by show 2 ≤ sizeLine; decide, fun q hq => ⟨q, _, rfl, .inr (SqT.of upd_same), rfl, rfl, _, rfl, ?_⟩⟩
        have sq := same_upd (o := .tup [.str "red", .str "blue"]) hq
        cases hR : isRoom (at0 ws 0) with
        | true => exact ifF (by rw [room_in, hR]; rfl) ⟨rfl, sq, rfl⟩
        | false =>
          refine ifT (by rw [room_in, hR]; rfl) (k2 ?_ _ (s13.trans sq))
          unfold rowOk
          rw [hT, hR, Bool.and_false]
          rfl
      rintro σ H5 ⟨rfl, s4, hR⟩
      have s15 := s13.trans s4
      have e5 := s4 _ _ e3
      have rk : rowOk c ws = (hasW ws || carW c ws) := by
        unfold rowOk
        rw [hT, hR, kn]
        rfl
      rw [rk] at k1 k2
      refine ⟨fun σ H' => σ = [some (.str x), some (.int c), some (.ref l), some (goalV no), none] ∧ H' = H5 ∧ hasW ws = false, ?_, ?_⟩
      · refine ⟨_, rfl, l, _, rfl, .inl (SqL.of e5), rfl, _, rfl, ?_⟩
        have bad : ¬ (ws.length = 3 ∧ at0 ws 1 = "has") → hasW ws = false := fun z => by
          unfold hasW
          by_cases c3 : ws.length = 3
          · rw [decide_eq_false fun y => z ⟨c3, y⟩, Bool.and_false]
          · rw [decide_eq_false c3, Bool.false_and]
        by_cases c3 : ws.length = 3
        · refine ifT (decide_eq_true (by rw [lw, c3]; rfl)) ⟨_, rfl, l, _, _, _, rfl, rfl, SqL.of e5, at0_at (i := 1) (by omega), rfl, _, rfl, ?_⟩
          by_cases ch : at0 ws 1 = "has"
          · have hh : hasW ws = true := by
              unfold hasW
              rw [decide_eq_true c3, decide_eq_true ch]
              rfl
            have eE : entF ws = ⟨ws, none, no⟩ := by
              unfold entF
              rw [if_neg (by rw [hT]; decide), if_pos hh, en]
            rw [eE] at k1
            refine ifT (by rw [str_ne]; exact decide_eq_true ch) ⟨_, rfl, _, rfl, fun y dy hy hdy _ => mk_ent (no := no) hy hdy fun H' s3 ex => k1 (by rw [hh]; rfl) _ H' (s15.trans s3) ⟨y, dy, l, .non, rfl, ex, s3 _ _ e5, rfl, wne, fun _ => hR⟩⟩
          · exact ifF (by rw [str_ne]; exact decide_eq_false ch) ⟨rfl, rfl, bad fun z => ch z.2⟩
        · exact ifF (decide_eq_false (by rw [lw]; intro z; injection z; omega)) (iteF ⟨rfl, rfl, bad fun z => c3 z.1⟩)
      rintro σ H6 ⟨rfl, rfl, hh⟩
      rw [hh, Bool.false_or] at k1 k2
      refine ⟨fun σ H' => σ = [some (.str x), some (.int c), some (.ref l), some (goalV no), none] ∧ H' = H6 ∧ ws.length = 4 ∧ at0 ws 2 = "carried", ?_, ?_⟩
      · refine ⟨_, rfl, l, _, rfl, .inl (SqL.of e5), rfl, _, rfl, ?_⟩
        have bad : ¬ (ws.length = 4 ∧ at0 ws 2 = "carried") → carW c ws = false := fun z => by
          unfold carW
          by_cases c3 : ws.length = 4
          · rw [decide_eq_false fun y => z ⟨c3, y⟩, Bool.and_false, Bool.false_and]
          · rw [decide_eq_false c3, Bool.false_and, Bool.false_and]
        by_cases c4 : ws.length = 4
        · refine ifF (by rw [decide_eq_true (by rw [lw, c4]; rfl)]; rfl) ⟨_, rfl, l, _, _, _, rfl, rfl, SqL.of e5, at0_at (i := 2) (by omega), rfl, _, rfl, ?_⟩
          by_cases ch : at0 ws 2 = "carried"
          · exact ifF (by rw [str_ne, decide_eq_true ch]; rfl) ⟨rfl, rfl, c4, ch⟩
          · exact ifT (by rw [str_ne, decide_eq_false ch]; rfl) (k2 (bad fun z => ch z.2) _ s15)
        · exact ifT (by rw [decide_eq_false (by rw [lw]; intro z; injection z; omega)]; rfl) (iteT (k2 (bad fun z => c4 z.1) _ s15))
      rintro σ H7 ⟨rfl, rfl, c4, cc⟩
      have l1 : (at0 ws 1).length ≤ 600 := wl _ (by
        unfold at0
        rw [List.getD_eq_getElem?_getD, List.getElem?_eq_getElem (by omega)]
        exact List.getElem_mem (by omega))
      have hc : carW c ws = inR c (intL (tl (at0 ws 1))) := by
        unfold carW
        rw [inR_intL, decide_eq_true c4, decide_eq_true cc]
        rfl
      rw [hc] at k1 k2
      refine ⟨_, rfl, l, _, _, _, rfl, rfl, SqL.of e5, at0_at (i := 1) (by omega), at0 ws 1, rfl, l1, fun H8 s8 => ?_⟩
      have e8 := s8 _ _ e5
      have s18 := s15.trans s8
      have eE : entF ws = ⟨ws, some (.meet (decide (at0 ws 0 = "red")) (needV ws)), no⟩ := by
        unfold entF
        rw [if_neg (by rw [hT]; decide), if_neg (by rw [hh]; decide), en]
      rw [eE] at k1
      unfold needV at k1
      generalize intL (tl (at0 ws 1)) = nd at *
      refine ⟨_, rfl, _, rfl, nd, c, rfl, _, rfl, ?_⟩
      cases hn : inR c nd with
      | false => exact iteF (k2 hn _ s18)
      | true =>
        cases nd with
        | none => cases hn
        | some v =>
          refine iteT ⟨_, rfl, _, rfl, l, _, _, _, rfl, rfl, SqL.of e8, at0_at (i := 0) w0, _, rfl, by show 2 ≤ sizeLine; decide, fun q hq => ?_⟩
          refine ⟨_, rfl, fun y dy hy hdy _ => mk_ent (no := no) hy hdy fun H' s9 ex => k1 hn _ H' ((s18.trans (same_upd hq)).trans s9) ⟨y, dy, l, .ref q, rfl, ex, s9 _ _ ((same_upd hq) _ _ e8), ⟨q, rfl, .inl ?_⟩, wne, fun z => nomatch z⟩⟩
          rw [s9 _ _ upd_same]
          show _ = some (HO.tup [V.str (roomS (decide (at0 ws 0 = "red"))), V.int v])
          rw [room_name hR]
          rfl
end
end Cc

/-! Daybooks: made, counted, asked for the starts that fit. -/
namespace Cc
open PySem PySem.Spec PyProof.Rows L2 TL
abbrev s_row_count : Stmt := inClass (top 39) 1
def RowE (CX : Addr) (E : XK) (x : Addr) (H : Hp) (k : Nat) : Prop := ∀ H' d, But x H H' → H' d = none → E (.ref CX) (some d) (upd H' d (.xd [(("row" : Str), .int (k : Nat))]))
def spChairs (CX : Addr) : Sp := fun vs H Q E => ∃ x : Str, vs = [.str x] ∧ okS x ∧ x.length ≤ 600 ∧
  (∀ c, headV (wordsB x) = some c → ∀ H', Same H H' → Q (.int c) H') ∧ (headV (wordsB x) = none → ∀ H' d, Same H H' → H' d = none → E (.ref CX) (some d) (upd H' d (.xd [(("row" : Str), .int 0)])))
structure DTxt (K : PySem.W.Frag) (CD : Addr) : Prop where
  cl : Cls K CD
  a0 : NoAttr K CD "first_row"
  a1 : NoAttr K CD "all_chairs"
  a2 : NoAttr K CD "entries"
abbrev dyL (l0 : Str) (c : Int) (le : Addr) : List (Str × V) := [("first_row", .str l0), ("all_chairs", .int c), ("entries", .ref le)]
def IsRef (v : V) : Prop := ∃ p, v = .ref p
def DayAt (CD CE TU : Addr) (H : Hp) (x : Addr) (l0 : Str) (c : Int) (es : List Ent) : Prop := ∃ dx le vs, H x = some (.ins CD dx (dyL l0 c le)) ∧ H le = some (.lst vs) ∧ Paired (EntQ CE TU H) vs es
/-- made from H on: its list of entries is fresh -/
def DayAtN (CD CE TU : Addr) (H H' : Hp) (x : Addr) (l0 : Str) (c : Int) (es : List Ent) : Prop := ∃ dx le vs, H' x = some (.ins CD dx (dyL l0 c le)) ∧ H' le = some (.lst vs) ∧ Paired (EntQ CE TU H') vs es ∧ H le = none
theorem DayAtN.at_ {CD CE TU : Addr} {H H' : Hp} {x : Addr} {l0 : Str} {c : Int} {es : List Ent} (d : DayAtN CD CE TU H H' x l0 c es) : DayAt CD CE TU H' x l0 c es :=
  let ⟨dx, le, vs, a, b, e, _⟩ := d
  ⟨dx, le, vs, a, b, e⟩
def entsT (t : Str) : List Ent := ((rowsT t).drop 1).map entF
def spDayInit (CD CE CX TU : Addr) : Sp := fun vs H Q E => ∃ (x dx : Addr) (t : Str), vs = [.ref x, .str t] ∧ H x = some (.ins CD dx []) ∧ okS t ∧ t.length ≤ 3000 ∧ (∀ y ∈ lines t, y.length ≤ 600) ∧
  (∀ c, headV ((rowsT t).getD 0 []) = some c → badF (rowsT t) = none → ∀ H', But x H H' → DayAtN CD CE TU H H' x (at0 (lines t) 0) c (entsT t) → Q .non H') ∧ (∀ k, badF (rowsT t) = some k → RowE CX E x H k)
def spRows (CD CE TU : Addr) : Sp := fun vs H Q _ => ∃ (x : Addr) (l0 : Str) (c : Int) (es : List Ent), vs = [.ref x] ∧ DayAt CD CE TU H x l0 c es ∧ es.length ≤ 3001 ∧ Q (.int (1 + (es.length : Int))) H
def fitE (c n : Int) (ss : List Stp) (e : Ent) : Int × Int := match e.st with
  | none => leF c n ss (decide (at0 e.ws 0 = "red"))
  | some s => stC c n ss s
def fitStep (c : Int) (st : (Int × Int) × List Stp) (e : Ent) : (Int × Int) × List Stp :=
  (match e.no with | none => st.1 | some n => (mx st.1.1 (fitE c n st.2 e).1, if (fitE c n st.2 e).2 < st.1.2 then (fitE c n st.2 e).2 else st.1.2), match e.st with | none => st.2 | some s => st.2 ++ [s])
def fitL (c : Int) (es : List Ent) : (Int × Int) × List Stp := es.foldl (fitStep c) ((0, c), [])
def spFitE (CE TU : Addr) : Sp := fun vs H Q _ => ∃ (v : V) (e : Ent) (p : Addr) (ws : List V) (ss : List Stp) (c n : Int), vs = [v, .ref p, .int c] ∧ EntQ CE TU H v e ∧ e.no = some n ∧ H p = some (.lst ws) ∧ Paired (StepQ TU H) ws ss ∧
  ∀ q H', Same H H' → H' q = some (.tup [.int (fitE c n ss e).1, .int (fitE c n ss e).2]) → Q (.ref q) H'
/-- the least and the greatest start that fit, or none -/
def FitOut (c : Int) (es : List Ent) (Q : VK) (H : Hp) : Prop :=
  ((fitL c es).1.1 ≤ (fitL c es).1.2 → ∀ q H', Same H H' → H' q = some (.tup [.int (fitL c es).1.1, .int (fitL c es).1.2]) → Q (.ref q) H') ∧ (¬ (fitL c es).1.1 ≤ (fitL c es).1.2 → ∀ H', Same H H' → Q .non H')
def spFit (CD CE TU : Addr) : Sp := fun vs H Q _ => ∃ (x : Addr) (l0 : Str) (c : Int) (es : List Ent), vs = [.ref x] ∧ DayAt CD CE TU H x l0 c es ∧ es.length ≤ 3001 ∧ FitOut c es Q H
theorem int_of_num {m : Int} {x : Str} (h : numOk m x = true) : intL (tl x) = some (valL (tl x) : Int) := by
  unfold numOk at h
  rw [Bool.and_eq_true] at h
  unfold intL
  rw [if_pos h.1]
theorem last_two {ws : List Str} (h : ws.length = 2) : lastW ws = at0 ws 1 := by
  match ws, h with
  | [a, b], _ => rfl
theorem fitL_more {c : Int} {es : List Ent} {i : Nat} {e : Ent} (h : es[i]? = some e) : fitL c (es.take (i + 1)) = fitStep c (fitL c (es.take i)) e := by
  unfold fitL
  rw [take_more h, List.foldl_append]
  rfl
theorem fitL_len (c : Int) (es : List Ent) : ∀ st : (Int × Int) × List Stp, (es.foldl (fitStep c) st).2.length ≤ st.2.length + es.length := by
  induction es with
  | nil => exact fun st => Nat.le_add_right _ _
  | cons e es ih =>
    intro st
    rw [List.foldl_cons]; rw [List.length_cons]
    have h := ih (fitStep c st e)
    have h2 : (fitStep c st e).2.length ≤ st.2.length + 1 := by
      unfold fitStep
      cases e.st with
      | none => exact Nat.le_succ _
      | some s =>
        show (st.2 ++ [s]).length ≤ _
        rw [List.length_append]
        exact Nat.le_refl _
    omega
theorem small_lt {n : Nat} (h : n ≤ 10000000) : n < sizeLine := by
  rw [sizeLine_eq]
  omega
theorem enst_same {TU : Addr} {H H' : Hp} {sv : V} {o : Option Stp} (h : EnSt TU H sv o) (k : Same H H') : EnSt TU H' sv o := by
  cases o with
  | none => exact h
  | some s =>
    obtain ⟨t, e, q⟩ := h
    exact ⟨t, e, stq_same q k⟩
theorem entq_same {CE TU : Addr} {H H' : Hp} {v : V} {e : Ent} (h : EntQ CE TU H v e) (k : Same H H') : EntQ CE TU H' v e :=
  let ⟨p, dx, lw, sv, ev, ep, el, es, eo⟩ := h
  ⟨p, dx, lw, sv, ev, k _ _ ep, k _ _ el, enst_same es k, eo⟩
theorem stepq_same {TU : Addr} {H H' : Hp} {v : V} {s : Stp} (h : StepQ TU H v s) (k : Same H H') : StepQ TU H' v s :=
  let ⟨t, e, q⟩ := h
  ⟨t, e, stq_same q k⟩
theorem stepq_upd {TU l : Addr} {H : Hp} {vs : List V} {o : HO} {v : V} {s : Stp} (h : StepQ TU H v s) (el : H l = some (.lst vs)) : StepQ TU (upd H l o) v s :=
  let ⟨t, e, q⟩ := h
  ⟨t, e, stq_mono q fun t us z => by rw [upd_ne (ne_of z el fun y => nomatch y)]; exact z⟩
/-- a list of entries may change: the entries stay -/
theorem entq_upd {CE TU l : Addr} {H : Hp} {vs : List V} {o : HO} {v : V} {e : Ent} (h : EntQ CE TU H v e) (el : H l = some (.lst vs)) (hr : ∀ u ∈ vs, IsRef u) : EntQ CE TU (upd H l o) v e := by
  obtain ⟨p, dx, lw, sv, ev, ep, elw, es, eo⟩ := h
  have n1 : lw ≠ l := fun z => by
    subst z
    rw [elw] at el
    injection el with el
    injection el with el
    cases hw : e.ws with
    | nil => exact eo.1 hw
    | cons a r =>
      rw [hw] at el
      obtain ⟨q, hq⟩ := hr (V.str a) (by rw [← el]; exact List.mem_cons_self)
      cases hq
  refine ⟨p, dx, lw, sv, ev, ?_, ?_, ?_, eo⟩
  · rw [upd_ne (ne_of ep el fun y => nomatch y)]
    exact ep
  · rw [upd_ne n1]
    exact elw
  · cases he : e.st with
    | none =>
      rw [he] at es
      exact es
    | some s =>
      rw [he] at es
      exact stepq_upd es el
theorem pair_ref {CE TU : Addr} {H : Hp} : ∀ {vs : List V} {es : List Ent}, Paired (EntQ CE TU H) vs es → ∀ u ∈ vs, IsRef u
  | _, _, .cons h p, u, hu => by
    rcases (List.mem_cons.mp hu) with rfl | hu
    · obtain ⟨q, _, _, _, e, _⟩ := h
      exact ⟨q, e⟩
    · exact pair_ref p u hu
  | _, _, .nil, u, hu => by cases hu
theorem none_but {x a : Addr} {H H' : Hp} {o : HO} (b : But x H H') (h : H' a = none) (ex : H' x = some o) : H a = none := by
  cases q : H a with
  | none => rfl
  | some z =>
    have n : a ≠ x := fun y => by
      rw [y, ex] at h
      cases h
    rw [b _ _ n q] at h
    cases h
theorem rows_get {t : Str} {i : Nat} {ln : Str} (h : ((lines t).drop 1)[i]? = some ln) : ((rowsT t).drop 1)[i]? = some (wordsB ln) := by
  unfold rowsT
  rw [← List.map_drop, List.getElem?_map, h]
  rfl
theorem headV_range {ws : List Str} {c : Int} (h : headV ws = some c) : 0 ≤ c ∧ c ≤ 1000000000000000000 := by
  unfold headV at h
  split at h
  · rename_i z
    injection h with h
    rw [Bool.and_eq_true] at z
    have z2 := z.2
    unfold numOk at z2
    rw [Bool.and_eq_true] at z2
    have := of_decide_eq_true z2.2
    omega
  · cases h
theorem cut_tail1 (us : List V) {n : Nat} (h : n ≤ us.length) : cutV us (some (n : Int)) none = us.drop n := by
  unfold cutV
  rw [HT.sIx_nat, HT.sIx_none, Nat.min_eq_left h]
  exact List.take_of_length_le (by rw [List.length_drop]; exact Nat.le_refl _)
theorem rows_head {t : Str} : (rowsT t).getD 0 [] = wordsB (at0 (lines t) 0) := by
  obtain ⟨_, ne⟩ := lines_tot t
  unfold rowsT at0
  cases h : lines t with
  | nil => exact absurd h ne
  | cons a r => rfl
section
variable {P : Program} {w : World} {K : PySem.W.Frag} {mg : Str → Option Value} {base : Heap} {C CE CX CD TU pS gS : Addr} {mc : Value}
abbrev s_chairs_in : Stmt := top 40
abbrev n_chairs_in : List Str := ["line", "words", "chairs"]
theorem sc_chairs_in : FnScope n_chairs_in ["line"] (defScope s_chairs_in) := ⟨rfl, rfl, rfl, by decide +kernel, rfl, by decide +kernel, by decide +kernel⟩
theorem okx_chairs_in {f f_integer_in fE fNO : Addr} {fd : FuncData} (F : Fun K "chairs_in" "chairs_in" s_chairs_in f fd) (T : Txt K mg C TU pS gS mc) (D_integer_in : Dn P w K mg base 1 "integer_in" f_integer_in spIntIn) (XD : PySem.ErX.EiTxt P K mg "DaybookError" CX fE) (DO : Dn P w K mg base 1 "is_number" fNO spIsNumO) : FnOk P w K mg base (L2.CX P w) 2 f fd ["line"] (spChairs CX) := by
  refine F.okX sc_chairs_in (fun vs H Q E h => ?_) (fun cdv A outer s H vs Q E hr h => ?_)
  · obtain ⟨x, rfl, _⟩ := h
    rfl
  · obtain ⟨x, rfl, ox, lx, k1, k2⟩ := h
    refine ⟨_, pss_cons (ps_set (i := 1) sc_chairs_in.nd rfl (.inl rfl) (pe_split (pv 0) pe_str))
      (pss_cons (ps_set (i := 2) sc_chairs_in.nd rfl (.inl rfl) (pe_callR D_integer_in.ok (hr.mono (by decide)) rfl D_integer_in.at_ D_integer_in.kp pass0 (pa_cons (pe_ix ix_list (pv 1) (pe_un un_neg pe_int) (fun _ _ => rfl)) pa_nil)))
      (C8.pss_cut (ps_if (PW.pt (pw_or (pt_cmpR op_ne (pe_callB call_len_seq (by rfl) T.b.len PySem.boot_len (pa_cons (pv 1) pa_nil)) pe_int (nomark _)) (pw_or (pt_cmpR op_ne (pe_ix ix_list (pv 1) pe_int (fun _ _ => rfl)) pe_str (nomark _)) (pw_or1 (pt_not (pt_val (pe_callR DO.ok (hr.mono (by decide)) rfl DO.at_ DO.kp pass0 (pa_cons (pv 2) (pa_cons pe_int (pa_cons (ClX.pe_cval (pe_glob (v := .ref C) rfl T.gP rfl)) pa_nil))))))))))
        (pss_one (ps_raise (W := fun cls d _ H => E cls d H) rfl (takes_of rfl rfl rfl rfl) (pmk_row (k := 1) XD (hr.mono (by decide)) pe_int rfl))) pss_nil)
      (pss_one (ps_ret (pv 2))))), ?_⟩
    obtain ⟨wt, wne⟩ := words_tot x
    have wl : ∀ y ∈ wordsB x, y.length ≤ 600 := fun y hy => by
      have := tot_mem hy
      omega
    obtain ⟨u2, cv2⟩ := T.cc
    refine ⟨_, rfl, ⟨x, rfl⟩, x, _, rfl, rfl, by decide +kernel, Nat.le_trans (Nat.add_le_add_right lx 2) (by decide), fun l hl => ?_⟩
    have s1 := same_upd (o := .lst ((wordsB x).map V.str)) hl
    have e1 := upd_same (H := H) (a := l) (o := .lst ((wordsB x).map V.str))
    generalize upd H l (.lst ((wordsB x).map V.str)) = H1 at *
    generalize wordsB x = ws at *
    have w0 : 0 < ws.length := List.length_pos_iff.mpr wne
    have lastL : (lastW ws).length ≤ 600 := wl _ (by
      unfold lastW
      rw [List.getLastD_eq_getLast?, List.getLast?_eq_some_getLast wne]
      exact List.getLast_mem wne)
    have lw : (((ws.map V.str).length : Nat) : Int) = (ws.length : Int) := by rw [List.length_map]
    refine ⟨_, rfl, _, rfl, l, _, _, _, rfl, rfl, SqL.of e1, last_at wne, lastW ws, rfl, lastL, fun H2 s2 => ?_⟩
    have s12 := s1.trans s2
    have e2 := s2 _ _ e1
    have bad : headV ws = none → ∀ H' d, Same H H' → H' d = none → E (.ref CX) (some d) (upd H' d (.xd [(("row" : Str), .int 0)])) := k2
    refine ⟨fun σ H' => σ = [some (.str x), some (.ref l), some (goalV (intL (tl (lastW ws))))] ∧ H' = H2 ∧ ws.length = 2 ∧ at0 ws 0 = "chairs" ∧ numOk 1000000000000000000 (at0 ws 1) = true, ?_, ?_⟩
    · have nh : ¬ (ws.length = 2 ∧ at0 ws 0 = "chairs" ∧ numOk 1000000000000000000 (at0 ws 1) = true) → headV ws = none := fun z => by
        unfold headV
        rw [if_neg]
        rw [Bool.and_eq_true]; rw [Bool.and_eq_true]
        exact fun y => z ⟨of_decide_eq_true y.1.1, of_decide_eq_true y.1.2, y.2⟩
      refine ⟨_, rfl, l, _, rfl, .inl (SqL.of e2), rfl, _, rfl, ?_⟩
      by_cases c2 : ws.length = 2
      · refine ifF (by rw [decide_eq_true (by rw [lw, c2]; rfl)]; rfl) ⟨_, rfl, l, _, _, _, rfl, rfl, SqL.of e2, at0_at (i := 0) w0, rfl, _, rfl, ?_⟩
        by_cases cc : at0 ws 0 = "chairs"
        · refine ifF (by rw [str_ne, decide_eq_true cc]; rfl) ⟨_, rfl, C, _, _, _, rfl, T.rd, cv2, intL (tl (lastW ws)), 1000000000000000000, rfl, _, rfl, ?_⟩
          have en : inR 1000000000000000000 (intL (tl (lastW ws))) = numOk 1000000000000000000 (at0 ws 1) := by rw [inR_intL, last_two c2]
          cases hn : numOk 1000000000000000000 (at0 ws 1) with
          | true => exact ifF (by rw [en, hn]; rfl) ⟨rfl, rfl, c2, cc, rfl⟩
          | false => exact ifT (by rw [en, hn]; rfl) ⟨_, rfl, ⟨by decide, by decide⟩, fun d hd => bad (nh fun z => by rw [hn] at z; exact absurd z.2.2 (by decide)) H2 d s12 hd⟩
        · exact ifT (by rw [str_ne, decide_eq_false cc]; rfl) (iteT ⟨_, rfl, ⟨by decide, by decide⟩, fun d hd => bad (nh fun z => cc z.2.1) H2 d s12 hd⟩)
      · exact ifT (by rw [decide_eq_false (by rw [lw]; intro z; injection z; omega)]; rfl) (iteT ⟨_, rfl, ⟨by decide, by decide⟩, fun d hd => bad (nh fun z => c2 z.1) H2 d s12 hd⟩)
    rintro σ H3 ⟨rfl, rfl, c2, cc, hn⟩
    refine ⟨_, rfl, ?_⟩
    rw [last_two c2, int_of_num hn]
    exact k1 _ (by unfold headV; rw [if_pos (by rw [decide_eq_true c2, decide_eq_true cc, hn]; rfl)]) H3 s12
abbrev s_starts_that_fit : Stmt := top 42
abbrev n_starts_that_fit : List Str := ["entry", "steps", "chairs"]
theorem sc_starts_that_fit : FnScope n_starts_that_fit ["entry", "steps", "chairs"] (defScope s_starts_that_fit) := ⟨rfl, rfl, rfl, by decide +kernel, rfl, by decide +kernel, by decide +kernel⟩
theorem ok_starts_that_fit {f f_starts_that_leave f_starts_that_carry : Addr} {fd : FuncData} (F : Fun K "starts_that_fit" "starts_that_fit" s_starts_that_fit f fd) (D_starts_that_leave : Dn P w K mg base 3 "starts_that_leave" f_starts_that_leave (spLeave TU)) (D_starts_that_carry : Dn P w K mg base 3 "starts_that_carry" f_starts_that_carry (spStartsQ TU)) (N : NTxt K CE) : FnOk P w K mg base CX0 4 f fd ["entry", "steps", "chairs"] (spFitE CE TU) := by
  refine F.ok sc_starts_that_fit (fun vs H Q E h => ?_) (fun cdv A outer s H vs Q E hr h => ?_)
  · obtain ⟨v, e, p, ws, ss, c, n, rfl, _⟩ := h
    rfl
  · obtain ⟨v, e, p, ws, ss, c, n, rfl, ⟨y, dx, lw, sv, rfl, ey, el, es, en0, en1⟩, en, hp, hs, kk⟩ := h
    refine ⟨_, pss_cons (ps_if (pt_cmpR op_isN (pe_fld (pv 0) rfl) pe_non (nomark _))
        (pss_one (ps_ret (pe_callR D_starts_that_leave.ok (hr.mono (by decide)) rfl D_starts_that_leave.at_ D_starts_that_leave.kp pass0 (pa_cons (pv 1) (pa_cons (pv 2) (pa_cons (pe_ix ix_list (pe_fld (pv 0) rfl) pe_int (fun _ _ => rfl)) (pa_cons (pe_fld (pv 0) rfl) pa_nil))))))) pss_nil)
      (pss_one (ps_ret (pe_callR D_starts_that_carry.ok (hr.mono (by decide)) rfl D_starts_that_carry.at_ D_starts_that_carry.kp pass0 (pa_cons (pv 1) (pa_cons (pv 2) (pa_cons (pe_fld (pv 0) rfl) (pa_cons (pe_fld (pv 0) rfl) pa_nil))))))), ?_⟩
    refine ⟨_, rfl, y, CE, dx, _, _, rfl, ey, N.cl, N.a1, lkS (by decide) lkZ, rfl, _, rfl, ?_⟩
    unfold fitE at kk
    obtain ⟨wds, st, no⟩ := e
    dsimp only at *
    subst en
    have w0 : 0 < wds.length := List.length_pos_iff.mpr en0
    cases st with
    | none =>
      have sn : sv = .non := es
      subst sn
      have hR := room_name (en1 rfl)
      refine ifT (decide_eq_true rfl) ⟨_, rfl, _, rfl, _, rfl, y, CE, dx, _, _, rfl, ey, N.cl, N.a0, lkZ, lw, _, _, _, rfl, rfl, SqL.of el, at0_at (i := 0) w0, _, rfl, y, CE, dx, _, _, rfl, ey, N.cl, N.a2, lkS (by decide) (lkS (by decide) lkZ), p, ws, ss, decide (at0 wds 0 = "red"), c, n, ?_, hp, hs, kk⟩
      rw [hR]
      rfl
    | some s =>
      obtain ⟨u, rfl, hu⟩ := es
      exact ifF (decide_eq_false fun z => nomatch z) ⟨_, rfl, _, rfl, _, rfl, y, CE, dx, _, _, rfl, ey, N.cl, N.a1, lkS (by decide) lkZ, _, rfl, y, CE, dx, _, _, rfl, ey, N.cl, N.a2, lkS (by decide) (lkS (by decide) lkZ), p, ws, ss, .ref u, s, c, n, rfl, hp, hs, ⟨u, rfl, hu⟩, kk⟩
abbrev s_Daybook_row_count : Stmt := inClass (top 39) 1
abbrev n_Daybook_row_count : List Str := ["self"]
theorem sc_Daybook_row_count : FnScope n_Daybook_row_count ["self"] (defScope s_Daybook_row_count) := ⟨rfl, rfl, rfl, by decide +kernel, rfl, by decide +kernel, by decide +kernel⟩
theorem ok_Daybook_row_count {f : Addr} {fd : FuncData} (F : Fun K "row_count" "Daybook.row_count" s_Daybook_row_count f fd) (B : Bt mg) (D : DTxt K CD) : FnOk P w K mg base CX0 1 f fd ["self"] (spRows CD CE TU) := by
  refine F.ok sc_Daybook_row_count (fun vs H Q E h => ?_) (fun cdv A outer s H vs Q E hr h => ?_)
  · obtain ⟨x, l0, c, es, rfl, _⟩ := h
    rfl
  · obtain ⟨x, l0, c, es, rfl, ⟨dx, le, vs, ex, el, hp⟩, lz, k⟩ := h
    refine ⟨_, pss_one (ps_ret (pe_op op_add pe_int (pe_callB call_len_seq (by rfl) B.len PySem.boot_len (pa_cons (pe_fld (pv 0) rfl) pa_nil)))), ?_⟩
    refine ⟨_, rfl, x, CD, dx, _, _, rfl, ex, D.cl, D.a2, lkS (by decide) (lkS (by decide) lkZ), le, _, rfl, .inl (SqL.of el), _, _, rfl, rfl, ?_⟩
    rw [pair_len hp]
    exact k
abbrev s_Daybook_fitting_starts : Stmt := inClass (top 39) 5
abbrev n_Daybook_fitting_starts : List Str := ["self", "least", "greatest", "steps", "entry", "low", "high"]
theorem sc_Daybook_fitting_starts : FnScope n_Daybook_fitting_starts ["self"] (defScope s_Daybook_fitting_starts) := ⟨rfl, rfl, rfl, by decide +kernel, rfl, by decide +kernel, by decide +kernel⟩
theorem ok_Daybook_fitting_starts {f f_starts_that_fit : Addr} {fd : FuncData} (F : Fun K "fitting_starts" "Daybook.fitting_starts" s_Daybook_fitting_starts f fd) (B : Bt mg) (D_starts_that_fit : Dn P w K mg base 4 "starts_that_fit" f_starts_that_fit (spFitE CE TU)) (D : DTxt K CD) (N : NTxt K CE) : FnOk P w K mg base CX0 5 f fd ["self"] (spFit CD CE TU) := by
  refine F.ok sc_Daybook_fitting_starts (fun vs H Q E h => ?_) (fun cdv A outer s H vs Q E hr h => ?_)
  · obtain ⟨x, l0, c, es, rfl, _⟩ := h
    rfl
  · obtain ⟨x, l0, c, es, rfl, ⟨dx, le, vs, ex, el, hp⟩, lz, kf⟩ := h
    refine ⟨_, pss_cons (ps_par (i := 1) (j := 2) rfl sc_Daybook_fitting_starts.nd rfl rfl (by decide) rfl rfl (pa_cons pe_int (pa_cons (pe_fld (pv 0) rfl) pa_nil)) (by rfl))
      (pss_cons (ps_set (i := 3) sc_Daybook_fitting_starts.nd rfl (.inl rfl) (pe_lst pa_nil))
      (pss_cons (ps_for PassesOwn.never rfl (pi_list (pe_fld (pv 0) rfl)) (pg_name (i := 4) sc_Daybook_fitting_starts.nd rfl (.inl rfl))
        (C8.pss_cut (ps_if (pt_cmpR op_notN (pe_fld (pv 4) rfl) pe_non (nomark _))
          (pss_cons (ps_asg (pe_callR D_starts_that_fit.ok (hr.mono (by decide)) rfl D_starts_that_fit.at_ D_starts_that_fit.kp pass0 (pa_cons (pv 4) (pa_cons (pv 3) (pa_cons (pe_fld (pv 0) rfl) pa_nil)))) (pg_tup rfl (pgs_cons (pg_name (i := 5) sc_Daybook_fitting_starts.nd rfl (.inl rfl)) (pgs_cons (pg_name (i := 6) sc_Daybook_fitting_starts.nd rfl (.inl rfl)) pgs_nil))))
          (pss_one (ps_par (i := 1) (j := 2) rfl sc_Daybook_fitting_starts.nd rfl rfl (by decide) rfl rfl (pa_cons (pe_callB (call_max2 rfl) (by rfl) B.max (by decide +kernel) (pa_cons (pv 1) (pa_cons (pv 5) pa_nil))) (pa_cons (pe_callB (call_min2 rfl) (by rfl) B.min (by decide +kernel) (pa_cons (pv 2) (pa_cons (pv 6) pa_nil))) pa_nil)) (by rfl)))) pss_nil)
        (pss_one (ps_if (pt_cmpR op_notN (pe_fld (pv 4) rfl) pe_non (nomark _))
          (pss_one (ps_expr (pe_bm PySem.F.plainAttrs_list PySem.F.slot_list_append PySem.F.type_list_append mt_append (pv 3) (pa_cons (pe_fld (pv 4) rfl) pa_nil)))) pss_nil))))
      (pss_one (ps_ret (pe_ifExp (pt_cmpR op_le (pv 1) (pv 2) (nomark _)) (pe_tup (pa_cons (pv 1) (pa_cons (pv 2) pa_nil))) pe_non))))), ?_⟩
    have pl := pair_len hp
    refine ⟨_, rfl, x, CD, dx, _, _, rfl, ex, D.cl, D.a1, lkS (by decide) lkZ, _, _, rfl, by show 0 ≤ sizeLine; decide, fun l hl => ?_⟩
    have z1 := same_upd (o := .lst []) hl
    refine ⟨_, rfl, x, CD, dx, _, _, rfl, z1 _ _ ex, D.cl, D.a2, lkS (by decide) (lkS (by decide) lkZ), le, rfl, ⟨_, SqL.of (z1 _ _ el)⟩, for_list (K := K) (a := le) (xs := vs) (fun i σ H' => ∃ (x4 x5 x6 : Option V) (ws : List V), σ = [some (.ref x), some (.int (fitL c (es.take i)).1.1), some (.int (fitL c (es.take i)).1.2), some (.ref l), x4, x5, x6] ∧ Same H H' ∧ H' l = some (.lst ws) ∧ Paired (StepQ TU H') ws (fitL c (es.take i)).2)
      ⟨none, none, none, [], rfl, z1, upd_same, .nil⟩ (fun i σ H' _ ⟨_, _, _, _, _, s1, _⟩ => SqL.of (s1 _ _ el)) ?_ ?_⟩
    · rintro i v σ H2 hi ⟨x4, x5, x6, ws, rfl, s2, e2, p2⟩
      obtain ⟨e, he, hq⟩ := pair_get hp hi
      have hq2 := entq_same hq s2
      have hil := (List.getElem?_eq_some_iff.mp he).1
      have em := fitL_more (c := c) he
      have stl : (fitL c (es.take i)).2.length ≤ i := by
        have := fitL_len c (es.take i) ((0, c), [])
        rw [List.length_nil, List.length_take] at this
        unfold fitL
        omega
      generalize fitL c (es.take i) = st at *
      obtain ⟨⟨lo, hi'⟩, ss⟩ := st
      dsimp only at *
      have lw : ws.length = ss.length := pair_len p2
      obtain ⟨y, dy, lw2, sv, rfl, ey, elw, est, eok⟩ := id hq2
      refine ⟨fun σ' H' => ∃ (x5 x6 : Option V), σ' = [some (.ref x), some (.int (fitStep c ((lo, hi'), ss) e).1.1), some (.int (fitStep c ((lo, hi'), ss) e).1.2), some (.ref l), some (.ref y), x5, x6] ∧ Same H2 H', ?_, ?_⟩
      · refine ⟨_, rfl, y, CE, dy, _, _, rfl, ey, N.cl, N.a2, lkS (by decide) (lkS (by decide) lkZ), rfl, _, rfl, ?_⟩
        unfold fitStep
        cases hn : e.no with
        | none => exact ifF (by simp [goalV]) ⟨x5, x6, rfl, Same.refl H2⟩
        | some n =>
          refine ifT (by simp [goalV]) ⟨_, rfl, _, rfl, _, rfl, x, CD, dx, _, _, rfl, s2 _ _ ex, D.cl, D.a1, lkS (by decide) lkZ, .ref y, e, l, ws, ss, c, n, rfl, hq2, hn, e2, p2, fun q H3 s3 e3 => ⟨q, _, rfl, SqT.of e3, rfl, _, _, rfl, _, _, rfl, rfl, ?_⟩⟩
          exact ⟨_, rfl, _, rfl, _, _, rfl, _, rfl, _, rfl, _, _, rfl, _, _, rfl, _, _, rfl, s3⟩
      rintro σ H3 ⟨x5, x6, rfl, s3⟩
      have s13 := s2.trans s3
      have e3 := s3 _ _ e2
      have ey3 := s3 _ _ ey
      have p3 := pair_mono (fun a b h => stepq_same h s3) p2
      rw [em]
      refine ⟨_, rfl, y, CE, dy, _, _, rfl, ey3, N.cl, N.a1, lkS (by decide) lkZ, rfl, _, rfl, ?_⟩
      have es2 : (fitStep c ((lo, hi'), ss) e).2 = match e.st with | none => ss | some s => ss ++ [s] := rfl
      cases hs : e.st with
      | none =>
        have sn : sv = .non := by
          rw [hs] at est
          exact est
        subst sn
        rw [hs] at es2
        refine ifF (by simp) ⟨_, x5, x6, ws, rfl, s13, e3, ?_⟩
        rw [es2]
        exact p3
      | some s =>
        rw [hs] at est es2
        obtain ⟨u, rfl, hu⟩ := est
        refine ifT (by simp) ⟨_, rfl, .inl ⟨rfl, _, SqL.of e3⟩, _, rfl, y, CE, dy, _, _, rfl, ey3, N.cl, N.a1, lkS (by decide) lkZ, l, ws, _, rfl, rfl, e3, small_lt (by omega), ⟨_, x5, x6, ws ++ [.ref u], rfl, same_new hl s13, upd_same, ?_⟩⟩
        rw [es2]
        exact pair_mono (fun a b h => stepq_upd h e3) (pair_app (.cons ⟨u, rfl, stq_same hu s3⟩ .nil) p3)
    · rintro σ H2 ⟨x4, x5, x6, ws, rfl, s2, e2, p2⟩
      rw [pl, List.take_length]
      obtain ⟨f1, f2⟩ := kf
      refine ⟨_, rfl, _, rfl, _, _, rfl, rfl, _, rfl, ?_⟩
      by_cases c1 : (fitL c es).1.1 ≤ (fitL c es).1.2
      · exact ifT (decide_eq_true c1) ⟨_, rfl, _, rfl, by show 2 ≤ sizeLine; decide, fun q hq => f1 c1 q _ (s2.trans (same_upd hq)) upd_same⟩
      · exact ifF (decide_eq_false c1) (f2 c1 H2 s2)
abbrev s_Daybook___init__ : Stmt := inClass (top 39) 0
abbrev n_Daybook___init__ : List Str := ["self", "text", "lines", "row", "line", "entry"]
theorem sc_Daybook___init__ : FnScope n_Daybook___init__ ["self", "text"] (defScope s_Daybook___init__) := ⟨rfl, rfl, rfl, by decide +kernel, rfl, by decide +kernel, by decide +kernel⟩
theorem okx_Daybook___init__ {f f_entry_in fx_chairs_in fE : Addr} {fd : FuncData} (F : Fun K "__init__" "Daybook.__init__" s_Daybook___init__ f fd) (T : Txt K mg C TU pS gS mc) (g_MAX_ROWS : ∃ u, mg "MAX_ROWS" = some u ∧ RelV (.int 201) u) (D_entry_in : Dn P w K mg base 3 "entry_in" f_entry_in (spEntryIn CE TU)) (DX_chairs_in : DnX P w K mg base 2 "chairs_in" fx_chairs_in (spChairs CX)) (D : DTxt K CD) (XD : PySem.ErX.EiTxt P K mg "DaybookError" CX fE) : FnOk P w K mg base (L2.CX P w) 4 f fd ["self", "text"] (spDayInit CD CE CX TU) := by
  refine F.okX sc_Daybook___init__ (fun vs H Q E h => ?_) (fun cdv A outer s H vs Q E hr h => ?_)
  · obtain ⟨x, dx, t, rfl, _⟩ := h
    rfl
  · obtain ⟨x, dx, t, rfl, hx, ok, lt, ll, k1, k2⟩ := h
    obtain ⟨u_MAX_ROWS, m_MAX_ROWS, r_MAX_ROWS⟩ := g_MAX_ROWS
    refine ⟨_, pss_cons (ps_set (i := 2) sc_Daybook___init__.nd rfl (.inl rfl) (pe_split (pv 1) pe_str))
      (pss_cons (ps_fld (pv 0) (pe_ix ix_list (pv 2) pe_int (fun _ _ => rfl)) rfl)
      (pss_cons (ps_fld (pv 0) (pe_callR (Ez := E) DX_chairs_in.ok (hr.mono (by decide)) rfl DX_chairs_in.at_ DX_chairs_in.kp (passes_call (takes_of rfl rfl rfl rfl) fun _ _ _ _ h => h) (pa_cons (pe_fld (pv 0) rfl) pa_nil)) rfl)
      (pss_cons (ps_fld (pv 0) (pe_lst pa_nil) rfl)
      (pss_one (ps_for (passes_of rfl) rfl (pi_enumS (by rfl) T.b.enumerate (pa_cons (pe_slice sl_list (pv 2) (po_some pe_int) po_none) pa_nil) (pk_cons pe_int pk_nil)) (pg_tup rfl (pgs_cons (pg_name (i := 3) sc_Daybook___init__.nd rfl (.inl rfl)) (pgs_cons (pg_name (i := 4) sc_Daybook___init__.nd rfl (.inl rfl)) pgs_nil)))
        (pss_cons (ps_set (i := 5) sc_Daybook___init__.nd rfl (.inl rfl) (pe_callR D_entry_in.ok (hr.mono (by decide)) rfl D_entry_in.at_ D_entry_in.kp pass0 (pa_cons (pv 4) (pa_cons (pe_fld (pv 0) rfl) pa_nil))))
        (C8.pss_cut (ps_if (PW.pt (pw_or (pt_cmpR op_eq (pv 3) (pe_glob rfl m_MAX_ROWS r_MAX_ROWS) (nomark _)) (pw_or1 (pt_cmpR op_isN (pv 5) pe_non (nomark _)))))
          (pss_one (ps_raise (W := fun cls d _ H => E cls d H) rfl (takes_of rfl rfl rfl rfl) (pmk_row (k := 1) XD (hr.mono (by decide)) (pv 3) rfl))) pss_nil)
        (pss_one (ps_expr (pe_bm PySem.F.plainAttrs_list PySem.F.slot_list_append PySem.F.type_list_append mt_append (pe_fld (pv 0) rfl) (pa_cons (pv 5) pa_nil))))))))))), ?_⟩
    obtain ⟨lt1, lne⟩ := lines_tot t
    have lok := lines_ok ok
    have l0 : 0 < (lines t).length := List.length_pos_iff.mpr lne
    have lz : (lines t).length ≤ 3001 := by
      have := tot_len (lines t)
      omega
    have h0m : at0 (lines t) 0 ∈ lines t := by
      unfold at0
      rw [List.getD_eq_getElem?_getD, List.getElem?_eq_getElem l0]
      exact List.getElem_mem l0
    rw [rows_head] at k1
    refine ⟨_, rfl, ⟨t, rfl⟩, t, _, rfl, rfl, by decide +kernel, Nat.le_trans (Nat.add_le_add_right lt 2) (by decide), fun m hm => ?_⟩
    have s1 := same_upd (o := .lst ((lines t).map V.str)) hm
    have e1 := upd_same (H := H) (a := m) (o := .lst ((lines t).map V.str))
    have hx1 := s1 _ _ hx
    generalize upd H m (.lst ((lines t).map V.str)) = H1 at *
    refine ⟨_, rfl, m, _, _, _, rfl, rfl, SqL.of e1, at0_at (i := 0) l0, _, rfl, x, CD, dx, [], rfl, hx1, D.cl, D.a0, by decide, ?_⟩
    rw [putF_nil]
    have b2 : But x H (upd H1 x (.ins CD dx [("first_row", .str (at0 (lines t) 0))])) := fun b o n z => by
      rw [upd_ne n]
      exact s1 _ _ z
    have nmx : m ≠ x := ne_of e1 hx1 fun z => nomatch z
    have ex2 := upd_same (H := H1) (a := x) (o := .ins CD dx [("first_row", .str (at0 (lines t) 0))])
    have e2 : upd H1 x (.ins CD dx [("first_row", .str (at0 (lines t) 0))]) m = some (.lst ((lines t).map V.str)) := by rw [upd_ne nmx]; exact e1
    generalize upd H1 x (.ins CD dx [("first_row", .str (at0 (lines t) 0))]) = H2 at *
    refine ⟨_, rfl, x, CD, dx, _, _, rfl, ex2, D.cl, D.a0, lkZ, at0 (lines t) 0, rfl, lok _ h0m, ll _ h0m, fun c hc H3 s3 => ?_, fun hn H' d s' hd => ?_⟩
    rotate_left
    · exact k2 0 (by unfold badF; rw [rows_head, hn]) H' d (b2.trans (But.of s')) hd
    have ex3 := s3 _ _ ex2
    have e3 := s3 _ _ e2
    have b3 := b2.trans (But.of s3)
    have hcb := headV_range hc
    refine ⟨_, rfl, x, CD, dx, _, rfl, ex3, D.cl, D.a1, by show 1 < 1000; decide, ?_⟩
    rw [putF_skip (by decide), putF_nil]
    refine ⟨by show 0 ≤ sizeLine; decide, fun le hle => ⟨_, rfl, x, CD, dx, _, rfl, (same_upd hle) _ _ upd_same, D.cl, D.a2, by show 2 < 1000; decide, ?_⟩⟩
    rw [putF_skip (by decide), putF_skip (by decide), putF_nil]
    have lex : le ≠ x := fun z => by
      rw [z, upd_same] at hle
      cases hle
    have hle0 : H le = none := none_but (fun b o n z => by rw [upd_ne n]; exact b3 _ _ n z) hle upd_same
    have b5 : But x H (upd (upd (upd H3 x (.ins CD dx [("first_row", .str (at0 (lines t) 0)), ("all_chairs", .int c)])) le (.lst [])) x (.ins CD dx (dyL (at0 (lines t) 0) c le))) := fun b o n z => by
      have nl : b ≠ le := ne_of_none z hle0
      rw [upd_ne n, upd_ne nl, upd_ne n]
      exact b3 _ _ n z
    have ex5 := upd_same (H := upd (upd H3 x (.ins CD dx [("first_row", .str (at0 (lines t) 0)), ("all_chairs", .int c)])) le (.lst [])) (a := x) (o := .ins CD dx (dyL (at0 (lines t) 0) c le))
    have el5 : upd (upd (upd H3 x (.ins CD dx [("first_row", .str (at0 (lines t) 0)), ("all_chairs", .int c)])) le (.lst [])) x (.ins CD dx (dyL (at0 (lines t) 0) c le)) le = some (.lst []) := by
      rw [upd_ne lex]
      exact upd_same
    have nml : m ≠ le := fun z => by
      rw [← z] at hle
      rw [upd_ne nmx, e3] at hle
      cases hle
    have e5 : upd (upd (upd H3 x (.ins CD dx [("first_row", .str (at0 (lines t) 0)), ("all_chairs", .int c)])) le (.lst [])) x (.ins CD dx (dyL (at0 (lines t) 0) c le)) m = some (.lst ((lines t).map V.str)) := by
      rw [upd_ne nmx, upd_ne nml, upd_ne nmx]
      exact e3
    generalize upd (upd (upd H3 x (.ins CD dx [("first_row", .str (at0 (lines t) 0)), ("all_chairs", .int c)])) le (.lst [])) x (.ins CD dx (dyL (at0 (lines t) 0) c le)) = H5 at *
    have kc := k1 c hc
    have bF : badF (rowsT t) = badFrom c 1 ((rowsT t).drop 1) := by
      unfold badF
      rw [rows_head, hc]
    rw [bF] at kc k2
    have cd : cutV ((lines t).map V.str) (some 1) none = ((lines t).drop 1).map V.str := by
      have := cut_tail1 ((lines t).map V.str) (n := 1) (by rw [List.length_map]; omega)
      rw [← List.map_drop] at this
      exact this
    refine ⟨_, rfl, _, rfl, m, _, rfl, SqL.of e5, fun q hq => ?_⟩
    rw [cd]
    refine ⟨q, _, 1, rfl, rfl, by decide, by decide, SqL.of upd_same, ?_⟩
    have s6 := same_upd (o := .lst (((lines t).drop 1).map V.str)) hq
    have e6 := upd_same (H := H5) (a := q) (o := .lst (((lines t).drop 1).map V.str))
    generalize upd H5 q (.lst (((lines t).drop 1).map V.str)) = H6 at *
    have hq0 : q ≠ le := fun z => by
      rw [z, el5] at hq
      cases hq
    have hqx : q ≠ x := fun z => by
      rw [z, ex5] at hq
      cases hq
    have lz2 : ((lines t).drop 1).length ≤ 3000 := by
      rw [List.length_drop]
      omega
    refine for_it walk_enumS (fun i σ H' => ∃ (y3 y4 y5 : Option V) (vs : List V), σ = [some (.ref x), some (.str t), some (.ref m), y3, y4, y5] ∧ But x H H' ∧ H' x = some (.ins CD dx (dyL (at0 (lines t) 0) c le)) ∧ H' le = some (.lst vs) ∧ Paired (EntQ CE TU H') vs ((((rowsT t).drop 1).take i).map entF) ∧
        H' q = some (.lst (((lines t).drop 1).map V.str)) ∧ ∀ j ws, j < i → ((rowsT t).drop 1)[j]? = some ws → ¬ (1 + j = 201) ∧ rowOk c ws = true)
      ⟨none, none, none, [], rfl, b5.trans (But.of s6), s6 _ _ ex5, s6 _ _ el5, .nil, e6, fun j ws h => by omega⟩ (fun i σ H' _ ⟨_, _, _, _, _, _, _, _, _, g, _⟩ => SqL.of g) ?_ ?_
    · rintro i v σ H7 H8 hi ⟨y3, y4, y5, vs, rfl, b7, ex7, el7, p7, eq7, ok7⟩ ⟨T, a, b, rfl, hT, rfl, ha, hb⟩
      injection ha with ha
      subst ha
      dsimp only at hb
      rw [List.getElem?_map] at hb
      obtain ⟨ln, hln, rfl⟩ := Option.map_eq_some_iff.mp hb
      have hil := (List.getElem?_eq_some_iff.mp hln).1
      have hrow := rows_get hln
      have hlm : ln ∈ lines t := List.mem_of_mem_drop (List.mem_of_getElem? hln)
      have sT := same_upd (o := .tup [.int (1 + (i : Nat)), .str ln]) hT
      refine ⟨T, _, rfl, SqT.of upd_same, rfl, _, _, rfl, _, _, rfl, rfl, ?_⟩
      generalize upd H7 T (.tup [.int (1 + (i : Nat)), .str ln]) = H8 at *
      have plen := pair_len p7
      rw [List.length_map, List.length_take] at plen
      refine ⟨_, rfl, _, rfl, x, CD, dx, _, _, rfl, sT _ _ ex7, D.cl, D.a1, lkS (by decide) lkZ, ln, c, rfl, lok _ hlm, ll _ hlm, hcb.1, hcb.2, fun hg v H9 s9 hv => ?_, fun hg H9 s9 => ?_⟩
      · have s79 := sT.trans s9
        refine ⟨fun σ' H' => σ' = [some (.ref x), some (.str t), some (.ref m), some (.int (1 + (i : Nat))), some (.str ln), some v] ∧ H' = H9 ∧ ¬ (1 + i = 201), ?_, ?_⟩
        · obtain ⟨y, dy, lw, sv, rfl, _⟩ := hv
          refine ⟨_, rfl, rfl, _, rfl, ?_⟩
          by_cases c201 : 1 + i = 201
          · refine ifT (decide_eq_true (by rw [show ((1 : Int) + (i : Nat)) = ((1 + i : Nat) : Int) from rfl, c201]; rfl)) ⟨_, rfl, _, rfl, ⟨by omega, by omega⟩, fun d hd => ?_⟩
            exact k2 (1 + i) (badFrom_at ok7 hrow (.inl c201)) H9 d (b7.trans (But.of s79)) hd
          · exact ifF (decide_eq_false fun z => c201 (by injection z; omega)) ⟨_, rfl, rfl, _, rfl, ifF (by simp) ⟨rfl, rfl, c201⟩⟩
        rintro σ H10 ⟨rfl, rfl, c201⟩
        have el9 := s79 _ _ el7
        have ex9 := s79 _ _ ex7
        refine ⟨_, rfl, x, CD, dx, _, _, rfl, ex9, D.cl, D.a2, lkS (by decide) (lkS (by decide) lkZ), .inl ⟨rfl, _, SqL.of el9⟩, _, rfl, le, vs, _, rfl, rfl, el9, small_lt (by omega), ?_⟩
        have p9 := pair_mono (fun a b h => entq_same h s79) p7
        have rf := pair_ref p9
        have all := pair_app (.cons hv .nil) p9
        have rf2 := pair_ref all
        refine ⟨_, _, _, vs ++ [v], rfl, fun b o n z => ?_, ?_, upd_same, ?_, ?_, ?_⟩
        · have nl : b ≠ le := ne_of_none z hle0
          rw [upd_ne nl]
          exact s79 _ _ (b7 _ _ n z)
        · rw [upd_ne (Ne.symm lex)]
          exact ex9
        · rw [take_more hrow, List.map_append]
          exact pair_mono (fun a b h => entq_upd h el9 rf) all
        · rw [upd_ne hq0]
          exact s79 _ _ eq7
        · intro j ws hj hw
          by_cases c1 : j < i
          · exact ok7 j ws c1 hw
          · have e1 : j = i := by omega
            subst e1
            rw [hrow] at hw
            injection hw with hw
            rw [← hw]
            exact ⟨c201, hg⟩
      · have s79 := sT.trans s9
        refine ⟨fun _ _ => False, ?_, fun _ _ z => z.elim⟩
        have bad : ∀ d, H9 d = none → E (.ref CX) (some d) (upd H9 d (.xd [(("row" : Str), .int ((1 + i : Nat) : Int))])) := fun d hd => k2 (1 + i) (badFrom_at ok7 hrow (.inr hg)) H9 d (b7.trans (But.of s79)) hd
        refine ⟨_, rfl, rfl, _, rfl, ?_⟩
        by_cases c201 : 1 + i = 201
        · exact ifT (decide_eq_true (by rw [show ((1 : Int) + (i : Nat)) = ((1 + i : Nat) : Int) from rfl, c201]; rfl)) ⟨_, rfl, _, rfl, ⟨by omega, by omega⟩, bad⟩
        · exact ifF (decide_eq_false fun z => c201 (by injection z; omega)) ⟨_, rfl, rfl, _, rfl, ifT (by simp) ⟨_, rfl, _, rfl, ⟨by omega, by omega⟩, bad⟩⟩
    · rintro σ H7 ⟨y3, y4, y5, vs, rfl, b7, ex7, el7, p7, eq7, ok7⟩
      have en : (((lines t).drop 1).map V.str).length = ((rowsT t).drop 1).length := by
        unfold rowsT
        rw [List.length_map, List.length_drop, List.length_drop, List.length_map]
      rw [en] at ok7 p7
      rw [List.take_length] at p7
      refine kc (badFrom_none fun j ws hw => ok7 j ws (List.getElem?_eq_some_iff.mp hw).1 hw) H7 b7 ⟨dx, le, vs, ex7, el7, p7, hle0⟩
end
end Cc

/-! Rows that a law writes. -/
namespace Cc
open PySem PySem.Spec PyProof.Rows L2 TL
theorem numL_head (n : Nat) : n ≠ 0 → ∃ c r, numL n = c :: r ∧ 48 < c := by
  induction n using Nat.strongRecOn with | _ n ih =>
    intro h
    by_cases q : n < 10
    · exact ⟨48 + n, [], numL_lt q, by omega⟩
    · obtain ⟨c, r, e, hc⟩ := ih (n / 10) (by omega) (by omega)
      exact ⟨c, r ++ [48 + n % 10], by rw [numL_step (by omega), e]; rfl, hc⟩
theorem natOk_num (n : Nat) : natOk (numL n) = true := by
  have hd : digs (numL n) = true := List.all_eq_true.mpr fun c hc => decide_eq_true (numL_digits n c hc)
  unfold natOk
  rw [hd]
  by_cases h : n = 0
  · subst h
    rfl
  · obtain ⟨c, r, e, hc⟩ := numL_head n h
    rw [e]
    have : c ≠ 48 := by omega
    simp [this]
abbrev nS (n : Nat) : Str := Str.ofString (toString ((n : Nat) : Int))
theorem nS_tl (n : Nat) : tl (nS n) = numL n := tl_num n
theorem nS_ok (n : Nat) : okS (nS n) := num_ok n
theorem nS_num {n : Nat} {m : Int} (h : (n : Int) ≤ m) : numOk m (nS n) = true := by
  unfold numOk
  rw [nS_tl, natOk_num, Bool.true_and]
  refine decide_eq_true ?_
  show ((NumText.digitsVal (numL n) : Nat) : Int) ≤ m
  rw [numL_val]
  exact h
theorem nS_val (n : Nat) : (valL (tl (nS n)) : Int) = n := by
  rw [nS_tl]
  show ((NumText.digitsVal (numL n) : Nat) : Int) = n
  rw [numL_val]
theorem nS_free {n s : Nat} (h : s < 48 ∨ 57 < s) : s ∉ tl (nS n) := by
  rw [nS_tl]
  exact numL_free h
theorem nS_len {n : Nat} (h : n < 100) : (nS n).length ≤ 2 := by
  rw [len_tl, nS_tl]
  exact numL_len (by decide) (by omega)
theorem join_sum {y : Str} (hy : y.length = 1) {cs : List Str} (h : tot cs ≤ 16777216) : (cs.map (·.length)).sum + cs.length * y.length ≤ 16777216 := by
  have := sum_len cs
  rw [hy]
  omega
theorem words_of {x : Str} {ps : List Str} (h : tl x = joinL [32] (ps.map tl)) (ne : ps ≠ []) (hp : ∀ p ∈ ps, 32 ∉ tl p) : wordsB x = ps := by
  refine map_tl_inj ?_
  rw [split_spl _ _ (by rw [tl_sp]; simp) (kind_ok (by decide +kernel)), tl_sp, h]
  refine spl_join (fun e => ne (List.map_eq_nil_iff.mp e)) fun p hq => ?_
  obtain ⟨z, hz, rfl⟩ := List.mem_map.mp hq
  exact hp z hz
theorem lines_of {l : List Str} (ne : l ≠ []) (hp : ∀ p ∈ l, 10 ∉ tl p) : lines (Txt.join "\n" l) = l := split_join (s := 10) (S := []) tl_nl (by decide +kernel) ne hp
/-- what a row begins with, its number still wanted -/
def PreOk (c : Int) (s : Str) : Prop := okS s ∧ s.length ≤ 16 ∧ 10 ∉ tl s ∧ ∀ w, okS w → 32 ∉ tl w → known w = true → rowOk c (wordsB (s ++ w)) = true
def LineOk (c : Int) (x : Str) : Prop := okS x ∧ x.length ≤ 20 ∧ 10 ∉ tl x ∧ rowOk c (wordsB x) = true
theorem roomS_tl (b : Bool) : okS (roomS b) ∧ (roomS b).length ≤ 4 ∧ 10 ∉ tl (roomS b) ∧ 32 ∉ tl (roomS b) ∧ isRoom (roomS b) = true := by
  cases b
  · refine ⟨okS_of ?_, ?_, ?_, ?_, ?_⟩ <;> decide +kernel
  · refine ⟨okS_of ?_, ?_, ?_, ?_, ?_⟩ <;> decide +kernel
theorem tl_has : tl " has " = [32] ++ tl "has" ++ [32] := by decide +kernel
theorem tl_car : tl " carried " = [32] ++ tl "carried" ++ [32] := by decide +kernel
theorem app_len (x y : Str) : (x ++ y).length = x.length + y.length := by
  rw [len_tl, len_tl, len_tl, tl_append, List.length_append]
theorem pre_has (c : Int) (b : Bool) : PreOk c (roomS b ++ " has ") := by
  obtain ⟨r1, r2, r3, r4, r5⟩ := roomS_tl b
  refine ⟨okS_app r1 (okS_of (by decide +kernel)), ?_, ?_, fun w ow fw kw => ?_⟩
  · rw [app_len]
    have : Str.length " has " = 5 := by decide +kernel
    omega
  · rw [tl_append]
    intro z
    rcases List.mem_append.mp z with z | z
    · exact r3 z
    · exact absurd z (by decide +kernel)
  · have e : wordsB (roomS b ++ " has " ++ w) = [roomS b, Str.ofString "has", w] := by
      refine words_of ?_ (by simp) ?_
      · rw [tl_append, tl_append, tl_has]
        simp [joinL]
      · intro p hp
        simp only [List.mem_cons, List.not_mem_nil, or_false] at hp
        rcases hp with rfl | rfl | rfl
        · exact r4
        · decide +kernel
        · exact fw
    rw [e]
    unfold rowOk hasW
    show (_ || (known w && isRoom (roomS b) && ((decide (3 = 3) && decide (Str.ofString "has" = "has")) || _))) = true
    rw [kw, r5, decide_eq_true rfl, decide_eq_true rfl]
    simp
theorem pre_car {c : Int} {n : Nat} (b : Bool) (hn : (n : Int) ≤ c) (h100 : n < 100) : PreOk c (roomS b ++ " " ++ nS n ++ " carried ") := by
  obtain ⟨r1, r2, r3, r4, r5⟩ := roomS_tl b
  have nl := nS_len h100
  refine ⟨okS_app (okS_app (okS_app r1 (okS_of (by decide +kernel))) (nS_ok n)) (okS_of (by decide +kernel)), ?_, ?_, fun w ow fw kw => ?_⟩
  · rw [app_len, app_len, app_len]
    have : Str.length " carried " = 9 := by decide +kernel
    have : Str.length " " = 1 := by decide +kernel
    omega
  · rw [tl_append, tl_append, tl_append]
    intro z
    rcases List.mem_append.mp z with z | z
    · rcases List.mem_append.mp z with z | z
      · rcases List.mem_append.mp z with z | z
        · exact r3 z
        · exact absurd z (by decide +kernel)
      · exact nS_free (by omega) z
    · exact absurd z (by decide +kernel)
  · have e : wordsB (roomS b ++ " " ++ nS n ++ " carried " ++ w) = [roomS b, nS n, Str.ofString "carried", w] := by
      refine words_of ?_ (by simp) ?_
      · rw [tl_append, tl_append, tl_append, tl_append, tl_car, tl_sp]
        simp [joinL]
      · intro p hp
        simp only [List.mem_cons, List.not_mem_nil, or_false] at hp
        rcases hp with rfl | rfl | rfl | rfl
        · exact r4
        · exact nS_free (by omega)
        · decide +kernel
        · exact fw
    rw [e]
    unfold rowOk carW
    show (_ || (known w && isRoom (roomS b) && (_ || (decide (4 = 4) && decide (Str.ofString "carried" = "carried") && numOk c (nS n))))) = true
    rw [kw, r5, decide_eq_true rfl, decide_eq_true rfl, nS_num hn]
    simp
theorem line_turn (c : Int) : LineOk c "turn" := by
  refine ⟨okS_of (by decide +kernel), by decide +kernel, by decide +kernel, ?_⟩
  have e : wordsB "turn" = [Str.ofString "turn"] := words_of (by simp [joinL]) (by simp) (fun p hp => by rw [List.mem_singleton.mp hp]; decide +kernel)
  rw [e]
  unfold rowOk isTurnW
  rw [decide_eq_true rfl]
  rfl
theorem line_num {c : Int} {s w : Str} (h : PreOk c s) (ow : okS w) (fw : 32 ∉ tl w) (gw : 10 ∉ tl w) (kw : known w = true) (lw : w.length ≤ 2) : LineOk c (s ++ w) := by
  obtain ⟨h1, h2, h3, h4⟩ := h
  refine ⟨okS_app h1 ow, by rw [app_len]; omega, ?_, h4 w ow fw kw⟩
  rw [tl_append]
  intro z
  exact (List.mem_append.mp z).elim h3 gw
theorem known_num {n : Nat} (h : n < 100) : known (nS n) = true := by
  unfold known
  rw [nS_num (by omega), Bool.or_true]
theorem known_q : known "?" = true := by
  unfold known
  rw [decide_eq_true rfl]
  rfl
theorem head_row (n : Nat) (h : (n : Int) ≤ 1000000000000000000) : headV (wordsB (Str.ofString "chairs " ++ nS n)) = some (n : Int) ∧ 10 ∉ tl (Str.ofString "chairs " ++ nS n) := by
  have e : wordsB (Str.ofString "chairs " ++ nS n) = [Str.ofString "chairs", nS n] := by
    refine words_of ?_ (by simp) ?_
    · rw [tl_append, show tl (Str.ofString "chairs ") = tl (Str.ofString "chairs") ++ [32] by decide +kernel]
      simp [joinL]
    · intro p hp
      simp only [List.mem_cons, List.not_mem_nil, or_false] at hp
      rcases hp with rfl | rfl
      · decide +kernel
      · exact nS_free (by omega)
  refine ⟨?_, ?_⟩
  · rw [e]
    show (if (decide (2 = 2) && decide (Str.ofString "chairs" = "chairs") && numOk 1000000000000000000 (nS n)) = true then some (valL (tl (nS n)) : Int) else none) = _
    rw [decide_eq_true rfl, decide_eq_true rfl, nS_num h, nS_val]
    rfl
  · rw [tl_append]
    intro z
    rcases List.mem_append.mp z with z | z
    · exact absurd z (by decide +kernel)
    · exact nS_free (by omega) z
end Cc

/-! What is right in a daybook, and for which starts. -/
namespace Cc
open PySem PySem.Spec PyProof.Rows L2 TL
def stL (es : List Ent) : List Stp := es.filterMap fun e => e.st
def rightF (c : Int) (e : Ent) (r : Int) : Option Int := match e.st with
  | none => some (if at0 e.ws 0 = "red" then r else c - r)
  | some .turn => none
  | some (.meet b n) => some (stepF c (.meet b n) r).2
def nextF (c : Int) (e : Ent) (r : Int) : Int := match e.st with
  | none => r
  | some s => (stepF c s r).1
def rightsF (c : Int) : List Ent → Int → List (Option Int)
  | [], _ => []
  | e :: es, r => rightF c e r :: rightsF c es (nextF c e r)
def endF (c : Int) : List Ent → Int → Int
  | [], r => r
  | e :: es, r => endF c es (nextF c e r)
def wrongE (e : Ent) (o : Option Int) : Bool := match e.no with
  | none => false
  | some v => !decide (o = some v)
def checkF (c : Int) : Nat → List Ent → Int → Option Nat
  | _, [], _ => none
  | k, e :: es, r => if wrongE e (rightF c e r) then some k else checkF c (k + 1) es (nextF c e r)
def okAll (c : Int) : List Ent → Int → Bool
  | [], _ => true
  | e :: es, r => !wrongE e (rightF c e r) && okAll c es (nextF c e r)
theorem check_ok {c : Int} : ∀ {es : List Ent} {k : Nat} {r : Int}, checkF c k es r = none ↔ okAll c es r = true
  | [], k, r => ⟨fun _ => rfl, fun _ => rfl⟩
  | e :: es, k, r => by
    unfold checkF okAll
    cases h : wrongE e (rightF c e r) with
    | true => simp
    | false => simp [check_ok]
/-- what an entry of a daybook keeps to -/
structure EntC (c : Int) (e : Ent) : Prop where
  ok : ∀ s, e.st = some s → s.ok c
  tn : e.st = some .turn → e.no = none
  n0 : ∀ v, e.no = some v → 0 ≤ v
  rm : e.st = none → isRoom (at0 e.ws 0) = true
theorem endF_app {c : Int} : ∀ {a b : List Ent} {r : Int}, endF c (a ++ b) r = endF c b (endF c a r)
  | [], b, r => rfl
  | e :: a, b, r => endF_app (a := a) (b := b)
theorem okAll_app {c : Int} : ∀ {a b : List Ent} {r : Int}, okAll c (a ++ b) r = (okAll c a r && okAll c b (endF c a r))
  | [], b, r => (Bool.true_and _).symm
  | e :: a, b, r => by
    show (!wrongE e (rightF c e r) && okAll c (a ++ b) (nextF c e r)) = ((!wrongE e (rightF c e r) && okAll c a (nextF c e r)) && okAll c b (endF c a (nextF c e r)))
    rw [okAll_app, Bool.and_assoc]
theorem rightsF_app {c : Int} : ∀ {a b : List Ent} {r : Int}, rightsF c (a ++ b) r = rightsF c a r ++ rightsF c b (endF c a r)
  | [], b, r => rfl
  | e :: a, b, r => congrArg _ (rightsF_app (a := a) (b := b))
theorem rightsF_len {c : Int} : ∀ {a : List Ent} {r : Int}, (rightsF c a r).length = a.length
  | [], r => rfl
  | e :: a, r => congrArg (· + 1) (rightsF_len (a := a))
theorem endF_red {c : Int} : ∀ {es : List Ent} {r : Int} {t : Int}, endF c es r = (stepsF c (stL es) (r, t)).1
  | [], r, t => rfl
  | e :: es, r, t => by
    show endF c es (nextF c e r) = _
    unfold nextF stL
    rw [List.filterMap_cons]
    cases h : e.st with
    | none => exact endF_red
    | some s =>
      show endF c es (stepF c s r).1 = (stepsF c (s :: stL es) (r, t)).1
      exact endF_red
theorem reach_iff {c x a b : Int} {ss : List Stp} (hs : ∀ s ∈ ss, s.ok c) (x0 : 0 ≤ x) (x1 : x ≤ c) :
    ((fromF c (lowG (smEnd (smSteps c ss))) (highG (smEnd (smSteps c ss))) a b).1 ≤ x ∧ x ≤ (fromF c (lowG (smEnd (smSteps c ss))) (highG (smEnd (smSteps c ss))) a b).2) ↔ (a ≤ placeF c (sideF (smEnd (smSteps c ss)).turned) (stepsF c ss (x, 0)).1 ∧ placeF c (sideF (smEnd (smSteps c ss)).turned) (stepsF c ss (x, 0)).1 ≤ b) := by
  obtain ⟨ok, sy⟩ := smSteps_says x0 x1 ss hs
  obtain ⟨ok2, sy2, _, et⟩ := smEnd_says ok sy
  rw [← et] at sy2
  generalize placeF c (sideF (smEnd (smSteps c ss)).turned) (stepsF c ss (x, 0)).1 = y at *
  generalize smEnd (smSteps c ss) = m at *
  obtain ⟨_, ey⟩ := sy2
  have eg : lowG m ≤ highG m ∧ 0 ≤ lowG m ∧ highG m ≤ c ∧ y = clampF (lowG m) (highG m) x := by
    unfold lowG highG
    cases hg : m.goal with
    | none =>
      rw [hg] at ey
      exact ⟨ok2.lh, ok2.l0, ok2.h1, ey⟩
    | some z =>
      rw [hg] at ey
      obtain ⟨z0, z1⟩ := ok2.g z hg
      refine ⟨Int.le_refl _, z0, z1, ?_⟩
      simp only at ey ⊢
      unfold clampF
      omega
  rw [from_iff eg.2.1 eg.1 eg.2.2.1 x0 x1, eg.2.2.2]
theorem fitE_iff {c x n : Int} {ss : List Stp} {e : Ent} (hs : ∀ s ∈ ss, s.ok c) (x0 : 0 ≤ x) (x1 : x ≤ c) (he : EntC c e) (en : e.no = some n) :
    ((fitE c n ss e).1 ≤ x ∧ x ≤ (fitE c n ss e).2) ↔ rightF c e (stepsF c ss (x, 0)).1 = some n := by
  obtain ⟨r0, r1, _⟩ := stepsF_in (c := c) (ss := ss) (r := x) (t := 0) hs x0 x1 (Int.le_refl 0)
  unfold fitE rightF
  cases h : e.st with
  | none =>
    dsimp only
    unfold leF
    rw [reach_iff hs x0 x1]
    generalize (smEnd (smSteps c ss)).turned = t at *
    generalize (stepsF c ss (x, 0)).1 = r at *
    rw [Option.some.injEq]
    by_cases hb : at0 e.ws 0 = "red"
    · rw [if_pos hb, decide_eq_true hb]
      cases t
      · rw [if_pos (show (true != false) = true by decide)]
        show (n ≤ placeF c 1 r ∧ placeF c 1 r ≤ n) ↔ _
        have : placeF c 1 r = r := if_pos (by decide)
        rw [this]
        omega
      · rw [if_neg (by decide)]
        show (c - n ≤ placeF c (-1) r ∧ placeF c (-1) r ≤ c - n) ↔ _
        have : placeF c (-1) r = c - r := if_neg (by decide)
        rw [this]
        omega
    · rw [if_neg hb, decide_eq_false hb]
      cases t
      · rw [if_neg (by decide)]
        show (c - n ≤ placeF c 1 r ∧ placeF c 1 r ≤ c - n) ↔ _
        have : placeF c 1 r = r := if_pos (by decide)
        rw [this]
        omega
      · rw [if_pos (show (false != true) = true by decide)]
        show (n ≤ placeF c (-1) r ∧ placeF c (-1) r ≤ n) ↔ _
        have : placeF c (-1) r = c - r := if_neg (by decide)
        rw [this]
        omega
  | some s =>
    dsimp only
    unfold stC
    rw [reach_iff hs x0 x1, num_iff (he.ok s h) (he.n0 n en) r0 r1]
    cases s with
    | turn =>
      have := he.tn h
      rw [en] at this
      cases this
    | meet b m =>
      dsimp only
      rw [Option.some.injEq]
theorem fit_all {c x : Int} (c0 : 0 ≤ c) (x0 : 0 ≤ x) (x1 : x ≤ c) : ∀ es : List Ent, (∀ e ∈ es, EntC c e) → ((fitL c es).2 = stL es ∧ (∀ s ∈ stL es, s.ok c) ∧ 0 ≤ (fitL c es).1.1 ∧ (fitL c es).1.2 ≤ c ∧ (((fitL c es).1.1 ≤ x ∧ x ≤ (fitL c es).1.2) ↔ okAll c es x = true)) := by
  intro es
  refine snoc_ind (M := fun es => (∀ e ∈ es, EntC c e) → ((fitL c es).2 = stL es ∧ (∀ s ∈ stL es, s.ok c) ∧ 0 ≤ (fitL c es).1.1 ∧ (fitL c es).1.2 ≤ c ∧ (((fitL c es).1.1 ≤ x ∧ x ≤ (fitL c es).1.2) ↔ okAll c es x = true))) (fun _ => ⟨rfl, (fun s h => nomatch h), Int.le_refl 0, Int.le_refl c, ⟨fun _ => rfl, fun _ => ⟨x0, x1⟩⟩⟩) (fun us e ih hs => ?_) es
  obtain ⟨i1, i2, i3, i4, i5⟩ := ih fun z h => hs z (List.mem_append_left _ h)
  have he := hs e (List.mem_append_right _ List.mem_cons_self)
  have ef : fitL c (us ++ [e]) = fitStep c (fitL c us) e := by
    unfold fitL
    rw [List.foldl_append]
    rfl
  have es' : stL (us ++ [e]) = match e.st with | none => stL us | some s => stL us ++ [s] := by
    unfold stL
    rw [List.filterMap_append]
    cases h : e.st with
    | none => simp [h]
    | some s => simp [h]
  have eo : okAll c (us ++ [e]) x = (okAll c us x && !wrongE e (rightF c e (stepsF c (stL us) (x, 0)).1)) := by
    rw [okAll_app, endF_red (t := 0)]
    show (_ && (!wrongE e _ && true)) = _
    rw [Bool.and_true]
  rw [ef, eo]
  have e2 : (fitStep c (fitL c us) e).2 = match e.st with | none => (fitL c us).2 | some s => (fitL c us).2 ++ [s] := rfl
  have e1 : (fitStep c (fitL c us) e).1 = match e.no with | none => (fitL c us).1 | some n => (mx (fitL c us).1.1 (fitE c n (fitL c us).2 e).1, if (fitE c n (fitL c us).2 e).2 < (fitL c us).1.2 then (fitE c n (fitL c us).2 e).2 else (fitL c us).1.2) := rfl
  have all2 : ∀ s ∈ stL (us ++ [e]), s.ok c := fun s h => by
    unfold stL at h
    obtain ⟨z, hz, hzs⟩ := List.mem_filterMap.mp h
    exact (hs z hz).ok s hzs
  refine ⟨?_, all2, ?_⟩
  · rw [e2, i1, es']
  rw [e1]
  cases hn : e.no with
  | none =>
    have : wrongE e (rightF c e (stepsF c (stL us) (x, 0)).1) = false := by
      unfold wrongE
      rw [hn]
    rw [this]
    dsimp only
    rw [Bool.not_false, Bool.and_true]
    exact ⟨i3, i4, i5⟩
  | some n =>
    have fi := fitE_iff i2 x0 x1 he hn
    rw [i1]
    have w : (!wrongE e (rightF c e (stepsF c (stL us) (x, 0)).1)) = decide (rightF c e (stepsF c (stL us) (x, 0)).1 = some n) := by
      unfold wrongE
      rw [hn]
      exact Bool.not_not _
    rw [w]
    dsimp only
    generalize fitE c n (stL us) e = g at *
    generalize (fitL c us).1 = f at *
    rw [mx_eq]
    refine ⟨by omega, by split <;> omega, ?_⟩
    rw [Bool.and_eq_true, decide_eq_true_iff, ← i5, ← fi]
    by_cases q : g.2 < f.2
    · rw [if_pos q]
      omega
    · rw [if_neg q]
      omega
theorem fit_iff {c x : Int} {es : List Ent} (c0 : 0 ≤ c) (x0 : 0 ≤ x) (x1 : x ≤ c) (he : ∀ e ∈ es, EntC c e) : ((fitL c es).1.1 ≤ x ∧ x ≤ (fitL c es).1.2) ↔ checkF c 1 es x = none := by
  rw [check_ok]
  exact (fit_all c0 x0 x1 es he).2.2.2.2
theorem fit_range {c : Int} {es : List Ent} (c0 : 0 ≤ c) (he : ∀ e ∈ es, EntC c e) : 0 ≤ (fitL c es).1.1 ∧ (fitL c es).1.2 ≤ c :=
  let h := fit_all c0 (Int.le_refl 0) c0 es he
  ⟨h.2.2.1, h.2.2.2.1⟩
end Cc

namespace Cc
open PySem PySem.Spec PyProof.Rows L2
/-- check_number, that may raise -/
def spNumX (CN : Addr) : Sp := fun vs H Q E => ∃ (v a b : Int), vs = [.int v, .int a, .int b] ∧ (-(2 ^ 64) < a ∧ a < 2 ^ 64) ∧ (-(2 ^ 64) < b ∧ b < 2 ^ 64) ∧ (a ≤ v ∧ v ≤ b → Q .non H) ∧ (¬ (a ≤ v ∧ v ≤ b) → E (.ref CN) none H)
theorem text_len {i : Int} (h0 : -(2 ^ 64) < i) (h1 : i < 2 ^ 64) : (Str.ofString (toString i)).length ≤ 2000 := by
  have e := int_text_length_le (k := 1920) (by decide) (log_small h0 h1)
  rw [PySem.ofString_length]
  omega
section
variable {P : Program} {w : World} {K : PySem.W.Frag} {mg : Str → Option Value} {base : Heap} {C TU pS gS : Addr} {mc : Value}
theorem ok_numx {f fN CN : Addr} {fd : FuncData} (F : Fun K "check_number" "check_number" sChkNum f fd) (N : Dn P w K mg base 1 "is_number" fN spIsNum) (X : Err K mg "InvalidNumber" CN) : FnOk P w K mg base (L2.CX P w) 2 f fd ["value", "least", "most"] (spNumX CN) := by
  refine F.okX scChkNum (fun vs H Q E h => ?_) (fun cdv A outer s H vs Q E hr h => ?_)
  · obtain ⟨v, a, b, rfl, _⟩ := h
    rfl
  · obtain ⟨v, a, b, rfl, ha, hb, k1, k2⟩ := h
    obtain ⟨bmB, Bn, newId, initId, XF, Xq⟩ := X.ex
    refine ⟨_, pss_one (ps_if (pt_not (pt_val (pe_callR N.ok hr rfl N.at_ N.kp pass0 (pa_cons (pv 0) (pa_cons (pv 1) (pa_cons (pv 2) pa_nil))))))
      (pss_one (ps_raise rfl (takes_of rfl rfl rfl rfl) (pmk_any XF Xq X.at_ X.kp (raises_own X.sub X.ty) rfl (pa_cons (pe_joined (.cons pe_str (.cons (pe_fmt (pv 1)) (.cons pe_str (.cons (pe_fmt (pv 2)) .nil))))) pa_nil)))) pss_nil), ?_⟩
    refine ⟨_, rfl, _, rfl, _, rfl, v, a, b, rfl, _, rfl, ?_⟩
    by_cases c : a ≤ v ∧ v ≤ b
    · rw [decide_eq_true c]
      exact iteF (k1 c)
    · rw [decide_eq_false c]
      have l1 := text_len ha.1 ha.2
      have l2 := text_len hb.1 hb.2
      have l3 : (Str.ofString "a number is not from ").length ≤ 100 := by decide +kernel
      have l4 : (Str.ofString " to ").length ≤ 100 := by decide +kernel
      have l5 : Str.empty.length ≤ 100 := by decide +kernel
      refine iteT ⟨_, rfl, ?_, ⟨_, rfl, .inr ⟨a, rfl, log_small ha.1 ha.2, _, rfl, ?_, _, rfl, ?_, ⟨_, rfl, .inr ⟨b, rfl, log_small hb.1 hb.2, _, rfl, ?_, ⟨_, rfl⟩, k2 c⟩⟩⟩⟩⟩
      all_goals simp only [Str.length_append, sizeLine_eq]
      all_goals omega
end
end Cc

/-! The __init__ of an own error: super().__init__(f'.. {index} ..'); self.index = index. -/
namespace PySem
namespace EiX
open PySem.W PySem.Calls PyProof.Rows PySem.HandSPX
def iA (p1 p2 : Pos) : Arguments := { posonlyargs := [], args := [{ arg := "self", annotation := none, pos := p1 }], vararg := none, kwonlyargs := [{ arg := "index", annotation := none, pos := p2 }], kw_defaults := [none], kwarg := none, defaults := [] }
def iB (t1 t2 : Str) (a1 a2 a3 a4 a5 a6 a7 a8 a9 a10 b1 b2 b3 b4 : Pos) : List Stmt := [
  .Expr (.Call (.Attribute (.Call (.Name "super" a1) [] [] a2) "__init__" a3) [.JoinedStr [.Constant (.str t1) 0 a4, .FormattedValue (.Name "index" a5) (-1) none a6, .Constant (.str t2) 0 a7] a8] [] a9) a10,
  .Assign [.Attribute (.Name "self" b1) "index" b2] (.Name "index" b3) b4]
def iS : Scope := { kind := .function, names := [(PySem.Str.ofString "self", .local), (PySem.Str.ofString "index", .local), (PySem.Str.ofString "__class__", .free), (PySem.Str.ofString "super", .globalImplicit)], isGenerator := false, isCoroutine := false, more := [] }
/-- what is asked of such a class, at C, and of its __init__, at fI -/
structure EiTxt (P : Program) (K : Frag) (mg : Str → Option Value) (x : Str) (C fI : Addr) : Prop where
  at_ : mg x = some (.ref C)
  (kp : keepIn K (.ref C) = true)
  cls : ∃ nm q N bs bm sn sub ab col dd k0 k1 k2 k3 k5, K.lookup C = some (excClassObj nm q C N bs bm true sn sub ab col dd k0 k1 k2 k3 k5 "ValueError.__new__") ∧ refsVE bm = true
  sa : findIn K (.ref C) "__setattr__" = some (some (.builtin "object.__setattr__"))
  noN : findIn K (.ref C) "index" = some none
  iC : findIn K (.ref C) "__init__" = some (some (.ref fI))
  tC : typeIn K (.ref fI) = some (.type "function")
  sub : subIn K (.ref C) (.type "BaseException") = some true
  ty : typeIn K (.ref C) = some (.type "type")
  sve : subIn K (.ref C) (.type "ValueError") = some true
  sup : ks_superIn K C C "__init__" = some (some (.builtin "ValueError.__init__"))
  opq : nsIn K cStatics "thirdparty.any" = some none
  nsu : mg "super" = none
  htop : (P.main.scope.names.lookup ("super" : Str)).isSome = false
  fn : ∃ (cc cda : Addr) (oc : Value) (od : Option Addr) (kV doc pm : Value) (an : Option Addr) (ct : Value) (osl : Array (Option Value)) (qual t1 t2 : Str) (p1 p2 a1 a2 a3 a4 a5 a6 a7 a8 a9 a10 b1 b2 b3 b4 : Pos) (cl ccl : Value) (cld cdd : Option Addr) (csl ccs : Array (Option Value)) (vs : Array Value) (file : Str) (tf : Tok),
    K.lookup fI = some ⟨oc, od, .func (ksFn "__init__" qual (iA p1 p2) (iB t1 t2 a1 a2 a3 a4 a5 a6 a7 a8 a9 a10 b1 b2 b3 b4) iS .none kV doc pm an (.ref cda) ct cc), osl⟩ ∧ codeIn K (.ref cda) qual = true ∧
    K.lookup cc = some ⟨cl, cld, .cell (some (.ref C)), csl⟩ ∧ K.lookup cda = some ⟨ccl, cdd, .fields vs, ccs⟩ ∧ vs[2]? = some (.str file tf) ∧ ((P.main.file : Str) == file) = true ∧ t1.length ≤ 1000 ∧ t2.length ≤ 1000 ∧ (a3.endLine == a9.line) = true
/-- what __init__ leaves of a fresh exception at x -/
structure InitEnd (h h' : Heap) (x C dx : Addr) (v : Value) : Prop where
  keep : ∀ b o, b ≠ x → h.get? b = some o → h'.get? b = some o
  obj : ∃ t1 : Addr, h'.get? x = some { cls := .ref C, dict := some dx, data := .fields #[.ref t1, .none, .none, .none, .bool false, .none] }
  dbig : h.objs.size ≤ dx
  dne : dx ≠ x
  ns : h'.Ns1 dx (fun y => if y = "index" then some v else none)
theorem ldC {M : Model} {s : Shared} {env : Env} {m : Str → Option Value} {x : Str} {pos : Pos} {v : Value} {Q : Value → Shared → Prop} {A : Around} {E : Value → Shared → Prop} (hn : s.heap.Ns env.locals m) (hv : m x = some v) (h : Q v s)
    (hk : env.scope.kind = .function := by rfl) (hl : env.kindOf x = some .local := by rfl) (hd : (x == ("__debug__" : Str)) = false := by decide) :
    wpAny M A (eval (.Name x pos) env) Q E s := wpAny_Name (wpAny_loadName_local hk hl hn hv h) hd
/-- super().__init__ bound to the new exception, called -/
theorem call_mw {prog : Program} {w : World} {A : Around} {Er : Value → Shared → Prop} {h : Heap} {gn : Array GenState} {dw : Drawn} {tn : Nat} {sys : OsState} {C u e t0 : Addr} {p : Parts} {rest : List Value} {Q : Value → Shared → Prop}
    (cl : p.at h C) (he : h.get? e = some (excO C t0)) (hu : h.get? u = some (kxs_mw "ValueError.__init__" e)) (hrest : rest.length ≤ sizeLine)
    (hq : ∀ h' t1, (∀ b o, b ≠ e → h.get? b = some o → h'.get? b = some o) → h'.get? e = some (excO C t1) → Q .none ⟨h', gn, dw, tn, sys⟩) :
    wpAny (model prog w) A (call (.ref u) rest) Q Er ⟨h, gn, dw, tn, sys⟩ := by
  have isW : (Value.type "method-wrapper" == Value.type "method" || Value.type "method-wrapper" == Value.type "builtin_function_or_method" || Value.type "method-wrapper" == Value.type "method-wrapper") = true := by decide
  refine wpAny_call (codeAny_of_tree (show wpAny _ A.in1 (callAny (.ref u) ⟨rest, []⟩) _ _ _ from ?_))
  simp only [callAny]; refine wpAny_bind (wpAny_load hu ?_); simp only [kxs_mw, isW, if_true]
  refine KFB.if_so (by decide) (wpAny_bind (check_bound_init F.excBase_ValueError.toExcCallFacts cl he rfl (wpAny_bind (wpAny_pure (wpAny_pure ⟨plainId_quiet F.excBase_ValueError.init.plain _, codeAny_builtin F.excBase_ValueError.initEntry ?_⟩)))))
  exact exc_init_tree (cls := .ref C) (t0 := t0) (dv := none) (c2 := .none) (c3 := .none) (b4 := .bool false) he hrest fun h' k e' t' => hq h' _ k e'
theorem mc_eq {ob : Expr} {nme : Str} {vs : List Expr} {a3 a8 a9 : Pos} {env : Env} (hl : (a3.endLine == a9.line) = true) : eval (.Call (.Attribute ob nme a3) [.JoinedStr vs a8] [] a9) env = (do
    let ov ← attributeBase ob nme env (eval ob env)
    standAt a3.atName
    let (f, first) ← holding [ov] (getMethod ov nme (do return (← importBound ob env).getD true))
    callWith a9 f first (backTo a9 (starEach [.JoinedStr vs a8] env)) []) := by
  rw [arm_eval_Call]
  have e : methodCallForm (([Expr.JoinedStr vs a8] : List Expr).length + ([] : List Keyword).length) (backTo a9 (starEach [.JoinedStr vs a8] env)) (backToKw a9 (keywordEach [] env)) = true := by rfl
  unfold methodCall
  rw [e]
  unfold calleeOf methodCallPos
  rw [hl]
  rfl
theorem log_small {i : Int} (h0 : -(2 ^ 64) < i) (h1 : i < 2 ^ 64) : i.natAbs.log2 < 1920 := Cc.log_small h0 h1
theorem text_bound {i : Int} (h0 : -(2 ^ 64) < i) (h1 : i < 2 ^ 64) : (Str.ofString (toString i)).length ≤ 2000 := by
  have e := int_text_length_le (k := 1920) (by decide) (log_small h0 h1)
  rw [PySem.ofString_length]
  omega
theorem empty_len : Str.empty.length = 0 := by decide +kernel
section
variable {prog : Program} {w : World} {A : Around} {R : Result → Shared → Prop} {s : Shared} {K : Frag} {mg mb : Str → Option Value} {X : Str} {C fI : Addr}
theorem idx_init (T : EiTxt prog K mg X C fI) {x t0 : Addr} {i : Int} {tk0 : Tok} (KX : K.In s.heap) (hlim : s.heap.NoLimit) (hg : s.heap.Ns mainGlobals mg) (hb : s.heap.Ns builtinsNs mb) (hsu : mb "super" = some (.type "super"))
    (hx : s.heap.get? x = some (excO C t0)) (hnx : K.lookup x = none) (hroom : A.depth < recursionLimit) (hi : -(2 ^ 64) < i ∧ i < 2 ^ 64)
    (hq : ∀ h' tk dx, InitEnd s.heap h' x C dx (.int i tk0) → R (.ok (.ret .none)) { s with heap := h', toks := tk }) :
    codeAny (model prog w) A (.call (.ref fI) ⟨[.ref x], [("index", .int i tk0)]⟩) R s := by
  obtain ⟨cc, cda, oc, od, kV, doc, pm, an, ct, osl, qual, t1, t2, p1, p2, a1, a2, a3, a4, a5, a6, a7, a8, a9, a10, b1, b2, b3, b4, cl, ccl, cld, cdd, csl, ccs, vs, file, tf, ho, hcd, hcc, hcda, hvs, hfile, l1, l2, hln⟩ := T.fn
  obtain ⟨nm, q, N, bs, bm, sn, sub, ab, col, dd, k0, k1, k2, k3, k5, hC, hbm⟩ := T.cls
  have hcl : clsIn K C = some { name := nm, bases := bs, mro := .ref C :: bm, ns := N, qualname := q, hasDict := true, slotNames := sn, subclasses := sub, abstract := ab, collection := col, hasDel := false } := by unfold clsIn; rw [hC] <;> rfl
  have hmro : mroIn K C (.ref C) = some true := by
    unfold mroIn
    rw [hcl, Option.bind_some, if_neg (show ¬ (List.isEmpty (Value.ref C :: bm) = true) from Bool.false_ne_true)]
    simp
  have hxC : x ≠ C := fun z => by rw [z, hC] at hnx; cases hnx
  refine ks_codeAny_call_defAt (fd := ksFn "__init__" qual (iA p1 p2) (iB t1 t2 a1 a2 a3 a4 a5 a6 a7 a8 a9 a10 b1 b2 b3 b4) iS .none kV doc pm an (.ref cda) ct cc) (body := iB t1 t2 a1 a2 a3 a4 a5 a6 a7 a8 a9 a10 b1 b2 b3 b4) (binds := [("self", .ref x), ("index", .int i tk0)])
    hroom (KX _ _ ho) rfl hlim (codeRec_of KX hcd) rfl (BindsTo.of_eq (by first | rfl | with_unfolding_all rfl)) (show ∀ y ∈ iS.names, y.2 ≠ .cell by decide) (fun y hy => ?_) (fun h₀ hns hk => ?_)
  · rcases (List.mem_cons.mp hy) with rfl | hy
    · rfl
    · rw [List.mem_singleton.mp hy]
      rfl
  · have KX₀ : K.In h₀ := KX.keeps hk
    have hns' := hns
    have hself : ([("self", .ref x), ("index", .int i tk0)] : List (Str × Value)).reverse.lookup ("self" : Str) = some (Value.ref x) := by first | rfl | with_unfolding_all rfl | kernel_rfl
    have hidx : ([("self", .ref x), ("index", .int i tk0)] : List (Str × Value)).reverse.lookup ("index" : Str) = some (Value.int i tk0) := by first | rfl | with_unfolding_all rfl | kernel_rfl
    refine ks_wpAt_execs_cons (ks_wpAt_Expr_any (ks_wpAt_MethodCall ?_ (mc_eq hln)))
    refine ks_wpAt_super_base (f := fI) (cc := cda) (of := _) (oc := _) (vs := vs) (file := file) (tf := tf) rfl rfl (by decide) rfl (KX₀ _ _ ho) rfl rfl rfl (KX₀ _ _ hcda) rfl hvs hfile T.htop ?_
    refine ks_loadName_global rfl rfl (loadGlobal_builtin (hg.keeps hk) T.nsu (hb.keeps hk) hsu ⟨rfl, ?_⟩)
    refine wpAny_loadName_free rfl rfl rfl ⟨_, KX₀ _ _ hcc, rfl⟩ ?_
    refine wpAny_loadName_local rfl rfl hns hself ?_
    refine ks_wpAny_isType_cls (KX₀ _ _ hC) rfl ⟨rfl, ?_⟩
    refine ks_wpAny_call_super (KX₀ _ _ hC) rfl (hk _ _ hx) rfl (fun c z => nomatch z) (looks_mroIn KX₀ hmro) (fun h₁ e₁ kk₁ => ?_)
    have KX₁ : K.In h₁ := KX₀.keeps kk₁
    have hx₁ : h₁.get? x = some (excO C t0) := kk₁ _ _ (hk _ _ hx)
    have I₁ : InstAt h₁ x (excO C t0) C none := ⟨hx₁, rfl, rfl, trivial⟩
    have hso := e₁
    have hIV : Looks (model prog w) h₁ (isInstance (.ref x) (.type "ValueError")) true := I₁.type.andThen (looks_subIn KX₁ T.sve)
    have hsup : alongIn K "__init__" (((Value.ref C :: bm).dropWhile (· != .ref C)).drop 1) = some (some (.builtin "ValueError.__init__")) := by
      have z := T.sup
      unfold ks_superIn at z
      rw [hcl] at z
      exact z
    refine kxs_getMethod kxs_ValueError hso (looks_opaque KX₁ T.opq) (l₀ := .ref C :: bm) (fun A Q E s k q => wpAny_bind ((looks_clsIn KX₁ hcl) A _ E s k (wpAny_pure q))) rfl KX₁ hsup hIV hxC (by decide) ?_
    have k₂ : ∀ b o, h₁.get? b = some o → (h₁.push (kxs_mw "ValueError.__init__" x)).get? b = some o := fun b o e => Heap.get?_push_of_some _ e
    refine kxs_callWith (i := "ValueError.__init__") (x := x) rfl (evalArgs_plain (spliced_cons ?_))
    have li := text_bound hi.1 hi.2
    refine JoinedStr_many (pos := a8) (joinParts_cons ?_)
    refine wpAny_Constant_str (k := 0) (pos := a4) ⟨?_, joinParts_cons ?_⟩
    · simp only [Str.length_append, sizeLine_eq, empty_len]
      omega
    refine FormattedValue_plain (pos := a6) (ldC (pos := a5) (hns.keeps fun b o e => k₂ b o (kk₁ b o e)) hidx (formatField_int_small (log_small hi.1 hi.2) ⟨?_, joinParts_cons ?_⟩))
    · simp only [Str.length_append, sizeLine_eq, empty_len]
      omega
    refine wpAny_Constant_str (k := 0) (pos := a7) ⟨?_, joinParts_nil ?_ ?_⟩
    · simp only [Str.length_append, sizeLine_eq, empty_len]
      omega
    · refine spliced_nil ⟨Heap.get?_push_at rfl rfl, ?_⟩
      refine call_mw (p := ⟨nm, q, N, bs, bm, sub, true, sn, ab, col, dd, k0, k1, k2, k3, k5⟩) (k₂ _ _ (KX₁ _ _ hC)) (k₂ _ _ hx₁) (Heap.get?_push_at rfl rfl) (by show 1 ≤ sizeLine; rw [sizeLine_eq]; decide) (fun h₃ t3 k₃ hx₃ => ?_)
      have kk : ∀ b o, b ≠ x → s.heap.get? b = some o → h₃.get? b = some o := fun b o hb e => k₃ b o hb (k₂ b o (kk₁ b o (hk b o e)))
      have KX₃ : K.In h₃ := fun b o e => kk b o (fun z => by rw [z] at e; rw [e] at hnx; cases hnx) (KX b o e)
      have hLx : s.heap.objs.size ≠ x := Nat.ne_of_gt (Heap.lt_size hx)
      obtain ⟨oL, esL, epL, hoL, rL⟩ := hns
      have hns₃ : h₃.Ns s.heap.objs.size (fun y => ([("self", .ref x), ("index", .int i tk0)] : List (Str × Value)).reverse.lookup y) := ⟨oL, esL, epL, k₃ _ _ hLx (k₂ _ _ (kk₁ _ _ hoL)), rL⟩
      refine ks_wpAt_execs_cons (wpAt_of_wpAny (plainObj_wpAny_Assign_Attribute ?_))
      refine ldC hns₃ hidx (ldC hns₃ hself ?_)
      refine set_plain KX₃ (ox := excO C t3) (od := none) ⟨hx₃, rfl, rfl, trivial⟩ T.sa ?_
      refine exc_osa KX₃ hx₃ hcl (show refsVE (.ref C :: bm) = true from hbm) rfl T.noN (fun h₄ tk₄ dx k₄ dn dne hx₄ hn₄ => ?_)
      refine wpAt_of_wpAny (wpAny_execs_nil (hq h₄ tk₄ dx ⟨fun b o hb e => k₄ b o hb (kk b o hb e), ⟨_, hx₄⟩, ?_, dne, hn₄⟩))
      have z : s.heap.objs.size < h₃.objs.size := Heap.lt_size (k₃ _ _ hLx (k₂ _ _ (kk₁ _ _ hoL)))
      exact Nat.le_of_lt (Nat.lt_of_lt_of_le z dn)
    · simp only [Str.length_append, sizeLine_eq, empty_len]
      omega
end
end EiX
end PySem

/-! Daybooks: what is right for a start; the first wrong row; the text filled. -/
namespace Cc
open PySem PySem.Spec PyProof.Rows L2 TL
def spAStepQ (TU : Addr) : Sp := fun vs H Q _ => ∃ (v : V) (s : Stp) (c r : Int), vs = [v, .int c, .int r] ∧ StepQ TU H v s ∧ ∀ p H', Same H H' → H' p = some (.tup [.int (stepF c s r).1, .int (stepF c s r).2]) → Q (.ref p) H'
def spRights (CD CE TU CN : Addr) : Sp := fun vs H Q E => ∃ (x : Addr) (l0 : Str) (c s : Int) (es : List Ent), vs = [.ref x, .int s] ∧ DayAt CD CE TU H x l0 c es ∧ 0 ≤ c ∧ c ≤ 1000000000000000000 ∧ es.length ≤ 3000 ∧ (∀ e ∈ es, EntC c e) ∧
  (0 ≤ s → s ≤ c → ∀ q H', Same H H' → H' q = some (.lst ((rightsF c es s).map goalV)) → Q (.ref q) H') ∧ (¬ (0 ≤ s ∧ s ≤ c) → ∀ H', Same H H' → E (.ref CN) none H')
def bdW : Option Nat → V
  | none => .non
  | some k => .int (k : Nat)
def spCheck (CD CE TU CN : Addr) : Sp := fun vs H Q E => ∃ (x : Addr) (l0 : Str) (c s : Int) (es : List Ent), vs = [.ref x, .int s] ∧ DayAt CD CE TU H x l0 c es ∧ 0 ≤ c ∧ c ≤ 1000000000000000000 ∧ es.length ≤ 3000 ∧ (∀ e ∈ es, EntC c e) ∧
  (0 ≤ s → s ≤ c → ∀ H', Same H H' → Q (bdW (checkF c 1 es s)) H') ∧ (¬ (0 ≤ s ∧ s ≤ c) → ∀ H', Same H H' → E (.ref CN) none H')
/-- the words of a row with its right number -/
def fillW (ws : List Str) : Option Int → List Str
  | none => ws
  | some n => ws.dropLast ++ [nS n.toNat]
def fillsF : List Ent → List (Option Int) → List Str
  | e :: es, o :: os => Txt.join " " (fillW e.ws o) :: fillsF es os
  | _, _ => []
theorem fills_len : ∀ (es : List Ent) (os : List (Option Int)), (fillsF es os).length ≤ es.length
  | [], _ => Nat.zero_le _
  | e :: es, [] => Nat.zero_le _
  | e :: es, o :: os => Nat.succ_le_succ (fills_len es os)
theorem fills_snoc {e : Ent} {o : Option Int} : ∀ {es : List Ent} {os : List (Option Int)}, os.length = es.length → fillsF (es ++ [e]) (os ++ [o]) = fillsF es os ++ [Txt.join " " (fillW e.ws o)]
  | [], [], _ => rfl
  | a :: es, b :: os, h => by
    show Txt.join " " (fillW a.ws b) :: fillsF (es ++ [e]) (os ++ [o]) = _
    rw [fills_snoc (by simpa using h)]
    rfl
def spFilled (CD CE TU CN : Addr) : Sp := fun vs H Q E => ∃ (x : Addr) (l0 : Str) (c s : Int) (es : List Ent), vs = [.ref x, .int s] ∧ DayAt CD CE TU H x l0 c es ∧ 0 ≤ c ∧ c ≤ 1000000000000000000 ∧ es.length ≤ 20 ∧ l0.length ≤ 600 ∧ (∀ e ∈ es, EntC c e ∧ tot e.ws ≤ 700) ∧
  (0 ≤ s → s ≤ c → ∀ H', Same H H' → Q (.str (Txt.join "\n" (l0 :: fillsF es (rightsF c es s)))) H') ∧ (¬ (0 ≤ s ∧ s ≤ c) → ∀ H', Same H H' → E (.ref CN) none H')
theorem rightsF_get {c : Int} : ∀ {es : List Ent} {i : Nat} {e : Ent} {r : Int}, es[i]? = some e → (rightsF c es r)[i]? = some (rightF c e (endF c (es.take i) r))
  | [], i, e, r, h => by simp at h
  | e' :: es, 0, e, r, h => by
    have h' : e' = e := Option.some.inj h
    subst h'
    rfl
  | e' :: es, i + 1, e, r, h => by
    show (rightsF c es (nextF c e' r))[i]? = some (rightF c e (endF c (es.take i) (nextF c e' r)))
    exact rightsF_get (by simpa using h)
theorem check_at {c : Int} : ∀ {es : List Ent} {i k : Nat} {e : Ent} {r : Int}, es[i]? = some e → okAll c (es.take i) r = true → wrongE e (rightF c e (endF c (es.take i) r)) = true → checkF c k es r = some (k + i)
  | [], i, k, e, r, h, _, _ => by simp at h
  | e' :: es, 0, k, e, r, h, _, hw => by
    have h' : e' = e := Option.some.inj h
    subst h'
    unfold checkF
    have hw' : wrongE e' (rightF c e' r) = true := hw
    rw [if_pos hw']
    rfl
  | e' :: es, i + 1, k, e, r, h, ho, hw => by
    have ho' : (!wrongE e' (rightF c e' r) && okAll c (es.take i) (nextF c e' r)) = true := ho
    rw [Bool.and_eq_true] at ho'
    unfold checkF
    rw [if_neg (by have := ho'.1; simp only [Bool.not_eq_true'] at this; rw [this]; decide)]
    rw [check_at (es := es) (i := i) (k := k + 1) (e := e) (by simpa using h) ho'.2 hw]
    congr 1
    omega
theorem endF_more {c : Int} {es : List Ent} {i : Nat} {e : Ent} {r : Int} (h : es[i]? = some e) : endF c (es.take (i + 1)) r = nextF c e (endF c (es.take i) r) := by
  rw [take_more h, endF_app]
  rfl
theorem rights_more {c : Int} {es : List Ent} {i : Nat} {e : Ent} {r : Int} (h : es[i]? = some e) : rightsF c (es.take (i + 1)) r = rightsF c (es.take i) r ++ [rightF c e (endF c (es.take i) r)] := by
  rw [take_more h, rightsF_app]
  rfl
theorem okAll_more {c : Int} {es : List Ent} {i : Nat} {e : Ent} {r : Int} (h : es[i]? = some e) : okAll c (es.take (i + 1)) r = (okAll c (es.take i) r && !wrongE e (rightF c e (endF c (es.take i) r))) := by
  rw [take_more h, okAll_app]
  show (_ && (!wrongE e _ && true)) = _
  rw [Bool.and_true]
theorem stL_ok {c : Int} {es : List Ent} (he : ∀ e ∈ es, EntC c e) : ∀ s ∈ stL es, s.ok c := fun s h => by
  obtain ⟨z, hz, hzs⟩ := List.mem_filterMap.mp h
  exact (he z hz).ok s hzs
theorem endF_in {c : Int} {es : List Ent} {r : Int} (he : ∀ e ∈ es, EntC c e) (r0 : 0 ≤ r) (r1 : r ≤ c) : 0 ≤ endF c es r ∧ endF c es r ≤ c := by
  rw [endF_red (t := 0)]
  obtain ⟨a, b, _⟩ := stepsF_in (c := c) (ss := stL es) (r := r) (t := 0) (stL_ok he) r0 r1 (Int.le_refl 0)
  exact ⟨a, b⟩
theorem right_in {c : Int} {e : Ent} {r n : Int} (he : EntC c e) (r0 : 0 ≤ r) (r1 : r ≤ c) (h : rightF c e r = some n) : 0 ≤ n ∧ n ≤ c := by
  unfold rightF at h
  cases hs : e.st with
  | none =>
    rw [hs] at h
    dsimp only at h
    rw [Option.some.injEq] at h
    split at h <;> omega
  | some s =>
    rw [hs] at h
    cases s with
    | turn => cases h
    | meet b m =>
      dsimp only at h
      rw [Option.some.injEq] at h
      obtain ⟨n0, n1⟩ := he.ok _ hs
      rw [← h]
      unfold stepF
      cases b <;> dsimp only <;> (try unfold mx) <;> split <;> omega
theorem cut_lastW (us : List V) : cutV us none (some (-1)) = us.dropLast := by
  unfold cutV
  rw [HT.sIx_none, List.drop_zero, Nat.sub_zero, List.dropLast_eq_take]
  congr 1
  show (if (-1 : Int) < 0 then ((-1 : Int) + (us.length : Int)).toNat else min (-1 : Int).toNat us.length) = _
  rw [if_pos (by decide)]
  omega
section
variable {P : Program} {w : World} {K : PySem.W.Frag} {mg : Str → Option Value} {base : Heap} {C CE CX CD CN TU pS gS : Addr} {mc : Value}
abbrev s_after_step : Stmt := top 21
abbrev n_after_step : List Str := ["step", "chairs", "red", "room", "need", "missing"]
theorem sc_after_step : FnScope n_after_step ["step", "chairs", "red"] (defScope s_after_step) := ⟨rfl, rfl, rfl, by decide +kernel, rfl, by decide +kernel, by decide +kernel⟩
theorem ok_after_step {f : Addr} {fd : FuncData} (F : Fun K "after_step" "after_step" s_after_step f fd) (T : Txt K mg C TU pS gS mc) : FnOk P w K mg base CX0 1 f fd ["step", "chairs", "red"] (spAStepQ TU) := by
  refine F.ok sc_after_step (fun vs H Q E h => ?_) (fun cdv A outer s H vs Q E hr h => ?_)
  · obtain ⟨v, s, c, r, rfl, _⟩ := h
    rfl
  · obtain ⟨v, st, c, r, rfl, ⟨u, rfl, hu⟩, k⟩ := h
    refine ⟨_, pss_cons (ps_if (pt_cmpR (op_eqD hr.units) (pv 0) (pe_glob (v := .ref TU) rfl T.gT rfl) (nomark _))
        (pss_one (ps_ret (pe_tup (pa_cons (pe_op op_sub (pv 1) (pv 2)) (pa_cons pe_int pa_nil))))) pss_nil)
      (pss_cons (ps_asg (pv 0) (pg_tup rfl (pgs_cons (pg_name (i := 3) sc_after_step.nd rfl (.inl rfl)) (pgs_cons (pg_name (i := 4) sc_after_step.nd rfl (.inl rfl)) pgs_nil))))
      (pss_cons (ps_if (pt_cmpR op_eq (pv 3) pe_str (nomark _))
        (pss_cons (ps_set (i := 5) sc_after_step.nd rfl (.inl rfl) (pe_callB (call_max2 rfl) (by rfl) T.b.max (by decide +kernel) (pa_cons pe_int (pa_cons (pe_op op_sub (pv 4) (pv 2)) pa_nil))))
        (pss_one (ps_ret (pe_tup (pa_cons (pe_op op_add (pv 2) (pv 5)) (pa_cons (pv 5) pa_nil)))))) pss_nil)
      (pss_cons (ps_set (i := 5) sc_after_step.nd rfl (.inl rfl) (pe_callB (call_max2 rfl) (by rfl) T.b.max (by decide +kernel) (pa_cons pe_int (pa_cons (pe_op op_sub (pv 4) (pe_op op_sub (pv 1) (pv 2))) pa_nil))))
      (pss_one (ps_ret (pe_tup (pa_cons (pe_op op_sub (pv 2) (pv 5)) (pa_cons (pv 5) pa_nil)))))))), ?_⟩
    have hsq := stq_sq T.tT hu
    refine ⟨_, rfl, stpD st, .tuple [.str "turn"], dp_stp hsq, .tup (T.tT _) (.cons (.str _) .nil), shaped_stp st, by decide +kernel, _, rfl, ?_⟩
    cases st with
    | turn =>
      refine ifT eqv_turn ⟨_, rfl, _, rfl, _, _, rfl, rfl, by show 2 ≤ sizeLine; decide, fun p hp => ?_⟩
      exact k p _ (same_upd hp) upd_same
    | meet bb n =>
      refine ifF (eqv_meet bb n) ⟨_, rfl, u, _, rfl, hsq, rfl, _, _, rfl, _, _, rfl, rfl, ?_⟩
      refine ⟨_, rfl, rfl, _, rfl, ?_⟩
      rw [room_eq]
      cases bb with
      | true =>
        refine iteT ⟨_, rfl, _, rfl, _, _, rfl, rfl, _, _, rfl, ?_⟩
        refine ⟨_, rfl, _, rfl, _, _, rfl, rfl, _, rfl, by show 2 ≤ sizeLine; decide, fun p hp => ?_⟩
        exact k p _ (same_upd hp) upd_same
      | false =>
        refine iteF ⟨_, rfl, _, rfl, _, rfl, _, _, rfl, rfl, _, _, rfl, rfl, _, _, rfl, ?_⟩
        refine ⟨_, rfl, _, rfl, _, _, rfl, rfl, _, rfl, by show 2 ≤ sizeLine; decide, fun p hp => ?_⟩
        exact k p _ (same_upd hp) upd_same
abbrev s_Daybook_right_numbers : Stmt := inClass (top 39) 4
abbrev n_Daybook_right_numbers : List Str := ["self", "start", "red", "numbers", "entry", "carried"]
theorem sc_Daybook_right_numbers : FnScope n_Daybook_right_numbers ["self", "start"] (defScope s_Daybook_right_numbers) := ⟨rfl, rfl, rfl, by decide +kernel, rfl, by decide +kernel, by decide +kernel⟩
theorem okx_Daybook_right_numbers {f f_after_step fx_check_number : Addr} {fd : FuncData} (F : Fun K "right_numbers" "Daybook.right_numbers" s_Daybook_right_numbers f fd) (T : Txt K mg C TU pS gS mc) (D_after_step : Dn P w K mg base 1 "after_step" f_after_step (spAStepQ TU)) (DX_check_number : DnX P w K mg base 2 "check_number" fx_check_number (spNumX CN)) (D : DTxt K CD) (N : NTxt K CE) : FnOk P w K mg base (L2.CX P w) 3 f fd ["self", "start"] (spRights CD CE TU CN) := by
  refine F.okX sc_Daybook_right_numbers (fun vs H Q E h => ?_) (fun cdv A outer s H vs Q E hr h => ?_)
  · obtain ⟨x, l0, c, s, es, rfl, _⟩ := h
    rfl
  · obtain ⟨x, l0, c, s, es, rfl, ⟨dx, le, vs, ex, el, hp⟩, c0, c1, lz, ee, k1, k2⟩ := h
    refine ⟨_, pss_cons (ps_expr (pe_callR (Ez := E) DX_check_number.ok (hr.mono (by decide)) rfl DX_check_number.at_ DX_check_number.kp (passes_call (takes_of rfl rfl rfl rfl) fun _ _ _ _ h => h) (pa_cons (pv 1) (pa_cons pe_int (pa_cons (pe_fld (pv 0) rfl) pa_nil)))))
      (pss_cons (ps_set (i := 2) sc_Daybook_right_numbers.nd rfl (.inl rfl) (pv 1))
      (pss_cons (ps_set (i := 3) sc_Daybook_right_numbers.nd rfl (.inl rfl) (pe_lst pa_nil))
      (pss_cons (ps_for (passes_of rfl) rfl (pi_list (pe_fld (pv 0) rfl)) (pg_name (i := 4) sc_Daybook_right_numbers.nd rfl (.inl rfl))
        (pss_one (ps_if (pt_cmpR op_isN (pe_fld (pv 4) rfl) pe_non (nomark _))
          (pss_one (ps_expr (pe_bm PySem.F.plainAttrs_list PySem.F.slot_list_append PySem.F.type_list_append mt_append (pv 3) (pa_cons (pe_ifExp (pt_cmpR op_eq (pe_ix ix_list (pe_fld (pv 4) rfl) pe_int (fun _ _ => rfl)) pe_str (nomark _)) (pv 2) (pe_op op_sub (pe_fld (pv 0) rfl) (pv 2))) pa_nil))))
          (pss_cons (ps_asg (pe_callR D_after_step.ok (hr.mono (by decide)) rfl D_after_step.at_ D_after_step.kp pass0 (pa_cons (pe_fld (pv 4) rfl) (pa_cons (pe_fld (pv 0) rfl) (pa_cons (pv 2) pa_nil)))) (pg_tup rfl (pgs_cons (pg_name (i := 2) sc_Daybook_right_numbers.nd rfl (.inl rfl)) (pgs_cons (pg_name (i := 5) sc_Daybook_right_numbers.nd rfl (.inl rfl)) pgs_nil))))
          (pss_one (ps_expr (pe_bm PySem.F.plainAttrs_list PySem.F.slot_list_append PySem.F.type_list_append mt_append (pv 3) (pa_cons (pe_ifExp (pt_cmpR (op_eqD hr.units) (pe_fld (pv 4) rfl) (pe_glob (v := .ref TU) rfl T.gT rfl) (nomark _)) pe_non (pv 5)) pa_nil))))))))
      (pss_one (ps_ret (pv 3)))))), ?_⟩
    have pl := pair_len hp
    refine ⟨_, rfl, _, rfl, x, CD, dx, _, _, rfl, ex, D.cl, D.a1, lkS (by decide) lkZ, s, 0, c, rfl, ⟨by decide, by decide⟩, ⟨by omega, by omega⟩, fun ok => ?_, fun nok => k2 nok H (Same.refl H)⟩
    obtain ⟨r0, r1⟩ := ok
    refine ⟨_, rfl, by show 0 ≤ sizeLine; decide, fun l hl => ?_⟩
    have z1 := same_upd (o := .lst []) hl
    refine ⟨_, rfl, x, CD, dx, _, _, rfl, z1 _ _ ex, D.cl, D.a2, lkS (by decide) (lkS (by decide) lkZ), le, rfl, ⟨_, SqL.of (z1 _ _ el)⟩, for_list (K := K) (a := le) (xs := vs) (fun i σ H' => ∃ (x4 x5 : Option V), σ = [some (.ref x), some (.int s), some (.int (endF c (es.take i) s)), some (.ref l), x4, x5] ∧ Same H H' ∧ H' l = some (.lst ((rightsF c (es.take i) s).map goalV)))
      ⟨none, none, rfl, z1, upd_same⟩ (fun i σ H' _ ⟨_, _, _, s1, _⟩ => SqL.of (s1 _ _ el)) ?_ ?_⟩
    · rintro i v σ H2 hi ⟨x4, x5, rfl, s2, e2⟩
      obtain ⟨e, he, hq⟩ := pair_get hp hi
      have hil := (List.getElem?_eq_some_iff.mp he).1
      have hq2 := entq_same hq s2
      have hec := ee e (List.mem_of_getElem? he)
      have em := endF_more (c := c) (r := s) he
      have rm := rights_more (c := c) (r := s) he
      have rl : ((rightsF c (es.take i) s).map goalV).length < sizeLine := by
        rw [List.length_map, rightsF_len, List.length_take]
        exact small_lt (by omega)
      have ex2 := s2 _ _ ex
      rw [em, rm]
      clear em rm
      generalize endF c (es.take i) s = r at *
      generalize rightsF c (es.take i) s = rs at *
      obtain ⟨y, dy, lw, sv, rfl, ey, elw, est, eok⟩ := id hq2
      have w0 : 0 < e.ws.length := List.length_pos_iff.mpr eok.1
      refine ⟨_, rfl, y, CE, dy, _, _, rfl, ey, N.cl, N.a1, lkS (by decide) lkZ, rfl, _, rfl, ?_⟩
      unfold rightF nextF
      cases hs : e.st with
      | none =>
        rw [hs] at est
        have sn : sv = .non := est
        subst sn
        refine ifT (decide_eq_true rfl) ⟨_, rfl, .inl ⟨rfl, _, SqL.of e2⟩, _, rfl, y, CE, dy, _, _, rfl, ey, N.cl, N.a0, lkZ, lw, _, _, _, rfl, rfl, SqL.of elw, at0_at (i := 0) w0, rfl, _, rfl, ?_⟩
        by_cases hb : at0 e.ws 0 = "red"
        · refine ifT (by rw [str_ne]; exact decide_eq_true hb) ⟨_, rfl, l, _, _, rfl, rfl, e2, rl, ⟨_, x5, rfl, same_new hl s2, ?_⟩⟩
          dsimp only
          rw [if_pos hb, upd_same, List.map_append]
          rfl
        · refine ifF (by rw [str_ne]; exact decide_eq_false hb) ⟨_, rfl, x, CD, dx, _, _, rfl, ex2, D.cl, D.a1, lkS (by decide) lkZ, _, rfl, _, _, rfl, rfl, l, _, _, rfl, rfl, e2, rl, ⟨_, x5, rfl, same_new hl s2, ?_⟩⟩
          dsimp only
          rw [if_neg hb, upd_same, List.map_append]
          rfl
      | some st =>
        rw [hs] at est
        obtain ⟨u, rfl, hu⟩ := est
        refine ifF (decide_eq_false fun z => nomatch z) ⟨_, rfl, y, CE, dy, _, _, rfl, ey, N.cl, N.a1, lkS (by decide) lkZ, _, rfl, x, CD, dx, _, _, rfl, ex2, D.cl, D.a1, lkS (by decide) lkZ, _, rfl, .ref u, st, c, r, rfl, ⟨u, rfl, hu⟩, fun p H3 s3 e3 => ⟨p, _, rfl, SqT.of e3, rfl, _, _, rfl, _, _, rfl, rfl, ?_⟩⟩
        have e23 := s3 _ _ e2
        have hu3 := stq_same hu s3
        have hsq := stq_sq T.tT hu3
        refine ⟨_, rfl, .inl ⟨rfl, _, SqL.of e23⟩, _, rfl, y, CE, dy, _, _, rfl, s3 _ _ ey, N.cl, N.a1, lkS (by decide) lkZ, stpD st, .tuple [.str "turn"], dp_stp hsq, .tup (T.tT _) (.cons (.str _) .nil), shaped_stp st, by decide +kernel, _, rfl, ?_⟩
        cases st with
        | turn =>
          refine ifT eqv_turn ⟨l, _, _, rfl, rfl, e23, rl, ⟨_, _, rfl, same_new hl (s2.trans s3), ?_⟩⟩
          rw [upd_same, List.map_append]
          rfl
        | meet bb n =>
          refine ifF (eqv_meet bb n) ⟨_, rfl, l, _, _, rfl, rfl, e23, rl, ⟨_, _, rfl, same_new hl (s2.trans s3), ?_⟩⟩
          rw [upd_same, List.map_append]
          rfl
    · rintro σ H2 ⟨x4, x5, rfl, s2, e2⟩
      rw [pl, List.take_length] at e2
      exact ⟨_, rfl, k1 r0 r1 l H2 s2 e2⟩
abbrev s_Daybook_check : Stmt := inClass (top 39) 2
abbrev n_Daybook_check : List Str := ["self", "start", "row", "right", "number"]
theorem sc_Daybook_check : FnScope n_Daybook_check ["self", "start"] (defScope s_Daybook_check) := ⟨rfl, rfl, rfl, by decide +kernel, rfl, by decide +kernel, by decide +kernel⟩
theorem okx_Daybook_check {f fR : Addr} {fd : FuncData} (F : Fun K "check" "Daybook.check" s_Daybook_check f fd) (T : Txt K mg C TU pS gS mc) (D : DTxt K CD) (N : NTxt K CE) (MR : Meth K CD "right_numbers" fR) (GR : FnR P w K mg base (L2.CX P w) 3 fR (spRights CD CE TU CN)) : FnOk P w K mg base (L2.CX P w) 4 f fd ["self", "start"] (spCheck CD CE TU CN) := by
  refine F.okX sc_Daybook_check (fun vs H Q E h => ?_) (fun cdv A outer s H vs Q E hr h => ?_)
  · obtain ⟨x, l0, c, s, es, rfl, _⟩ := h
    rfl
  · obtain ⟨x, l0, c, s, es, rfl, hD, c0, c1, lz, ee, k1, k2⟩ := h
    refine ⟨_, pss_cons (ps_for (passes_of rfl) rfl (pi_enumS (by rfl) T.b.enumerate (pa_cons (pe_methR (E := E) (pv 0) D.cl MR GR (hr.mono (by decide)) (passes_call (takes_of rfl rfl rfl rfl) fun _ _ _ _ h => h) (pa_cons (pv 1) pa_nil)) pa_nil) (pk_cons pe_int pk_nil)) (pg_tup rfl (pgs_cons (pg_name (i := 2) sc_Daybook_check.nd rfl (.inl rfl)) (pgs_cons (pg_name (i := 3) sc_Daybook_check.nd rfl (.inl rfl)) pgs_nil)))
        (pss_cons (ps_set (i := 4) sc_Daybook_check.nd rfl (.inl rfl) (pe_fld (pe_ix ix_list (pe_fld (pv 0) rfl) (pe_op op_sub (pv 2) pe_int) (fun _ _ => rfl)) rfl))
        (pss_one (ps_if (PW.pt (pw_and (pt_cmpR op_notN (pv 4) pe_non (nomark _)) (pw_and1 (pt_cmpR op_ne (pv 4) (pv 3) (nomark _)))))
          (pss_one (ps_ret (pv 2))) pss_nil))))
      (pss_one (ps_ret pe_non)), ?_⟩
    obtain ⟨dx, le, vs, ex, el, hp⟩ := id hD
    have pl := pair_len hp
    refine ⟨_, rfl, x, dx, _, rfl, ex, lkS (by decide) (lkS (by decide) (lkS (by decide) lkN)), _, rfl, x, l0, c, s, es, rfl, hD, c0, c1, lz, ee, fun r0 r1 q H1 s1 e1 => ?_, fun nok H' s' => k2 nok H' s'⟩
    refine ⟨q, _, 1, rfl, rfl, by decide, by decide, SqL.of e1, ?_⟩
    have rlen : ((rightsF c es s).map goalV).length = es.length := by rw [List.length_map, rightsF_len]
    refine for_it walk_enumS (fun i σ H' => ∃ (x2 x3 x4 : Option V), σ = [some (.ref x), some (.int s), x2, x3, x4] ∧ Same H1 H' ∧ okAll c (es.take i) s = true)
      ⟨none, none, none, rfl, Same.refl H1, rfl⟩ (fun i σ H' _ ⟨_, _, _, _, s2, _⟩ => SqL.of (s2 _ _ e1)) ?_ ?_
    · rintro i v σ H2 H3 hi ⟨x2, x3, x4, rfl, s2, ok2⟩ ⟨T, a, b, rfl, hT, rfl, ha, hb⟩
      rw [rlen] at hi
      injection ha with ha
      subst ha
      dsimp only at hb
      obtain ⟨e, he⟩ : ∃ e, es[i]? = some e := ⟨_, List.getElem?_eq_getElem hi⟩
      rw [List.getElem?_map, rightsF_get he] at hb
      have hb' : goalV (rightF c e (endF c (es.take i) s)) = b := Option.some.inj hb
      subst hb'
      obtain ⟨v, hv, hq⟩ : ∃ v, vs[i]? = some v ∧ EntQ CE TU H v e := by
        have hil : i < vs.length := by omega
        obtain ⟨e', he', hq'⟩ := pair_get hp (List.getElem?_eq_getElem hil)
        rw [he] at he'
        injection he' with he'
        subst he'
        exact ⟨_, List.getElem?_eq_getElem hil, hq'⟩
      have sT := same_upd (o := .tup [.int (1 + (i : Nat)), goalV (rightF c e (endF c (es.take i) s))]) hT
      have s3 := s2.trans sT
      have s03 := s1.trans s3
      refine ⟨T, _, rfl, SqT.of upd_same, rfl, _, _, rfl, _, _, rfl, rfl, ?_⟩
      generalize upd H2 T (.tup [.int (1 + (i : Nat)), goalV (rightF c e (endF c (es.take i) s))]) = H3 at *
      have om := okAll_more (c := c) (r := s) he
      have cat : wrongE e (rightF c e (endF c (es.take i) s)) = true → checkF c 1 es s = some (1 + i) := check_at he ok2
      generalize rightF c e (endF c (es.take i) s) = o at *
      obtain ⟨y, dy, lw, sv, rfl, ey, elw, est, eok⟩ := entq_same hq s03
      have el3 := s03 _ _ el
      have ex3 := s03 _ _ ex
      refine ⟨_, rfl, x, CD, dx, _, _, rfl, ex3, D.cl, D.a2, lkS (by decide) (lkS (by decide) lkZ), _, rfl, _, _, rfl, rfl, le, vs, _, _, rfl, rfl, SqL.of el3, at_of (j := i) (by omega) hv, y, CE, dy, _, _, rfl, ey, N.cl, N.a2, lkS (by decide) (lkS (by decide) lkZ), ?_⟩
      have go : wrongE e o = false → ∃ (x2 x3 x4 : Option V), [some (.ref x), some (.int s), some (.int (1 + (i : Nat))), some (goalV o), some (goalV e.no)] = [some (.ref x), some (.int s), x2, x3, x4] ∧ Same H1 H3 ∧ okAll c (es.take (i + 1)) s = true := fun z => ⟨_, _, _, rfl, s3, by rw [om, ok2, z]; rfl⟩
      have out : wrongE e o = true → Q (.int (1 + (i : Nat))) H3 := fun z => by
        have := k1 r0 r1 H3 s03
        rw [cat z] at this
        exact this
      refine ⟨_, rfl, rfl, _, rfl, ?_⟩
      unfold wrongE at go out
      cases hn : e.no with
      | none =>
        rw [hn] at go
        exact ifF (by simp [goalV]) (iteF (go rfl))
      | some n =>
        rw [hn] at go out
        refine ifT (by simp [goalV]) ⟨_, rfl, _, rfl, (by cases o <;> rfl), _, rfl, ?_⟩
        by_cases hc : o = some n
        · exact ifF (by rw [hc]; simp [goalV]) (go (by dsimp only; rw [decide_eq_true hc]; rfl))
        · refine ifT ?_ ⟨_, rfl, out (by dsimp only; rw [decide_eq_false hc]; rfl)⟩
          cases o with
          | none => simp [goalV]
          | some m =>
            have : ¬ m = n := fun z => hc (by rw [z])
            simp [goalV]
            omega
    · rintro σ H2 ⟨x2, x3, x4, rfl, s2, ok2⟩
      rw [rlen, List.take_length] at ok2
      have := k1 r0 r1 H2 (s1.trans s2)
      rw [check_ok.mpr ok2] at this
      exact this
abbrev s_Daybook_filled : Stmt := inClass (top 39) 3
abbrev n_Daybook_filled : List Str := ["self", "start", "rows", "entry", "right", "words"]
theorem sc_Daybook_filled : FnScope n_Daybook_filled ["self", "start"] (defScope s_Daybook_filled) := ⟨rfl, rfl, rfl, by decide +kernel, rfl, by decide +kernel, by decide +kernel⟩
theorem okx_Daybook_filled {f fR : Addr} {fd : FuncData} (F : Fun K "filled" "Daybook.filled" s_Daybook_filled f fd) (T : Txt K mg C TU pS gS mc) (D : DTxt K CD) (N : NTxt K CE) (MR : Meth K CD "right_numbers" fR) (GR : FnR P w K mg base (L2.CX P w) 3 fR (spRights CD CE TU CN)) : FnOk P w K mg base (L2.CX P w) 4 f fd ["self", "start"] (spFilled CD CE TU CN) := by
  refine F.okX sc_Daybook_filled (fun vs H Q E h => ?_) (fun cdv A outer s H vs Q E hr h => ?_)
  · obtain ⟨x, l0, c, s, es, rfl, _⟩ := h
    rfl
  · obtain ⟨x, l0, c, s, es, rfl, hD, c0, c1, lz, hl0, ee, k1, k2⟩ := h
    refine ⟨_, pss_cons (ps_set (i := 2) sc_Daybook_filled.nd rfl (.inl rfl) (pe_lst (pa_cons (pe_fld (pv 0) rfl) pa_nil)))
      (pss_cons (ps_for (passes_of rfl) rfl (RZ.pi_zipA (by rfl) T.b.zip (pa_cons (pe_fld (pv 0) rfl) (pa_cons (pe_methR (E := E) (pv 0) D.cl MR GR (hr.mono (by decide)) (passes_call (takes_of rfl rfl rfl rfl) fun _ _ _ _ h => h) (pa_cons (pv 1) pa_nil)) pa_nil))) (pg_tup rfl (pgs_cons (pg_name (i := 3) sc_Daybook_filled.nd rfl (.inl rfl)) (pgs_cons (pg_name (i := 4) sc_Daybook_filled.nd rfl (.inl rfl)) pgs_nil)))
        (C8.pss_cut (ps_set (i := 5) sc_Daybook_filled.nd rfl (.inl rfl) (pe_ifExp (pt_cmpR op_isN (pv 4) pe_non (nomark _)) (pe_fld (pv 3) rfl) (pe_op op_cat (pe_slice sl_list (pe_fld (pv 3) rfl) po_none (po_some (pe_un un_neg pe_int))) (pe_lst (pa_cons (pe_callTy call_str_int (by rfl) T.b.str (by decide +kernel) (pa_cons (pv 4) pa_nil)) pa_nil)))))
        (pss_one (ps_expr (pe_bm PySem.F.plainAttrs_list PySem.F.slot_list_append PySem.F.type_list_append mt_append (pv 2) (pa_cons (pe_join pe_str (pv 5)) pa_nil))))))
      (pss_one (ps_ret (pe_join pe_str (pv 2))))), ?_⟩
    obtain ⟨dx, le, vs, ex, el, hp⟩ := id hD
    have pl := pair_len hp
    have ec : ∀ e ∈ es, EntC c e := fun e he => (ee e he).1
    have hsp : Str.length " " = 1 := by decide +kernel
    have hnl : Str.length "\n" = 1 := by decide +kernel
    refine ⟨_, rfl, x, CD, dx, _, _, rfl, ex, D.cl, D.a0, lkZ, by show 1 ≤ sizeLine; decide, fun l hl => ?_⟩
    have z1 := same_upd (o := .lst [.str l0]) hl
    have g1 := upd_same (H := H) (a := l) (o := .lst [.str l0])
    generalize upd H l (.lst [.str l0]) = H1 at *
    have hD1 : DayAt CD CE TU H1 x l0 c es := ⟨dx, le, vs, z1 _ _ ex, z1 _ _ el, pair_mono (fun a b h => entq_same h z1) hp⟩
    refine ⟨_, rfl, x, CD, dx, _, _, rfl, z1 _ _ ex, D.cl, D.a2, lkS (by decide) (lkS (by decide) lkZ), _, rfl, x, dx, _, rfl, z1 _ _ ex, lkS (by decide) (lkS (by decide) (lkS (by decide) lkN)), _, rfl, x, l0, c, s, es, rfl, hD1, c0, c1, by omega, ec, fun r0 r1 q H2 s2 e2 => ?_, fun nok H' s' => k2 nok H' (z1.trans s')⟩
    have s02 := z1.trans s2
    have rlen : ((rightsF c es s).map goalV).length = es.length := by rw [List.length_map, rightsF_len]
    refine ⟨le, q, vs, _, rfl, .inl ⟨SqL.of (s02 _ _ el), SqL.of e2, ?_⟩⟩
    refine for_it (walk_zip (n := es.length) (by rw [rlen, pl]; omega)) (fun i σ H' => ∃ (x3 x4 x5 : Option V), σ = [some (.ref x), some (.int s), some (.ref l), x3, x4, x5] ∧ Same H H' ∧ H' q = some (.lst ((rightsF c es s).map goalV)) ∧ H' l = some (.lst ((l0 :: fillsF (es.take i) (rightsF c (es.take i) s)).map V.str)) ∧ tot (fillsF (es.take i) (rightsF c (es.take i) s)) ≤ 800 * i)
      ⟨none, none, none, rfl, s02, e2, s2 _ _ g1, Nat.zero_le _⟩ (fun i σ H' _ ⟨_, _, _, _, s3, eq3, _⟩ => ⟨SqL.of (s3 _ _ el), SqL.of eq3⟩) ?_ ?_
    · rintro i v σ H3 H4 hi ⟨x3, x4, x5, rfl, s3, eq3, el3, tl3⟩ ⟨T, a, b, rfl, hT, rfl, ha, hb⟩
      dsimp only at ha hb
      obtain ⟨e, he, hq⟩ := pair_get hp ha
      have hem := List.mem_of_getElem? he
      obtain ⟨hec, het⟩ := ee e hem
      rw [List.getElem?_map, rightsF_get he] at hb
      have hb' : goalV (rightF c e (endF c (es.take i) s)) = b := Option.some.inj hb
      subst hb'
      have sT := same_upd (o := .tup [a, goalV (rightF c e (endF c (es.take i) s))]) hT
      refine ⟨T, _, rfl, SqT.of upd_same, rfl, _, _, rfl, _, _, rfl, rfl, ?_⟩
      have s4 := s3.trans sT
      have el4 := sT _ _ el3
      have eq4 := sT _ _ eq3
      generalize upd H3 T (.tup [a, goalV (rightF c e (endF c (es.take i) s))]) = H4 at *
      have rin : ∀ n, rightF c e (endF c (es.take i) s) = some n → 0 ≤ n ∧ n ≤ c := fun n hn => by
        obtain ⟨a0, a1⟩ := endF_in (es := es.take i) (fun z hz => ec z (List.mem_of_mem_take hz)) r0 r1
        exact right_in hec a0 a1 hn
      have fm : fillsF (es.take (i + 1)) (rightsF c (es.take (i + 1)) s) = fillsF (es.take i) (rightsF c (es.take i) s) ++ [Txt.join " " (fillW e.ws (rightF c e (endF c (es.take i) s)))] := by
        rw [rights_more he, take_more he]
        exact fills_snoc (by rw [rightsF_len])
      have fl : (fillsF (es.take i) (rightsF c (es.take i) s)).length ≤ 20 := by
        have := fills_len (es.take i) (rightsF c (es.take i) s)
        rw [List.length_take] at this
        omega
      rw [fm]
      clear fm hb
      generalize rightF c e (endF c (es.take i) s) = o at *
      generalize fillsF (es.take i) (rightsF c (es.take i) s) = fs at *
      obtain ⟨y, dy, lw, sv, rfl, ey, elw, est, eok⟩ := entq_same hq s4
      have ft : tot (fillW e.ws o) ≤ 730 ∧ (fillW e.ws o).length ≤ 800 := by
        have h1 : tot (fillW e.ws o) ≤ 730 := by
          cases o with
          | none => exact Nat.le_trans het (by decide)
          | some n =>
            obtain ⟨b0, b1⟩ := rin n rfl
            obtain ⟨m, rfl⟩ := Int.eq_ofNat_of_zero_le b0
            show tot (e.ws.dropLast ++ [nS m]) ≤ 730
            have : (nS m).length ≤ 19 := by
              rw [len_tl, nS_tl]
              exact numL_len (by decide) (by omega)
            rw [tot_append, tot_cons]
            have : tot e.ws.dropLast ≤ tot e.ws := by
              rw [List.dropLast_eq_take]
              have := tot_take_le e.ws (e.ws.length - 1)
              omega
            have : tot ([] : List Str) = 0 := rfl
            omega
        exact ⟨h1, Nat.le_trans (tot_len _) (by omega)⟩
      refine ⟨fun σ H' => ∃ wl, σ = [some (.ref x), some (.int s), some (.ref l), some (.ref y), some (goalV o), some (.ref wl)] ∧ Same H4 H' ∧ H' wl = some (.lst ((fillW e.ws o).map V.str)), ?_, ?_⟩
      · refine ⟨_, rfl, rfl, _, rfl, ?_⟩
        cases o with
        | none => exact ifT (by simp [goalV]) ⟨_, rfl, y, CE, dy, _, _, rfl, ey, N.cl, N.a0, lkZ, lw, rfl, Same.refl H4, elw⟩
        | some n =>
          obtain ⟨b0, b1⟩ := rin n rfl
          obtain ⟨m, rfl⟩ := Int.eq_ofNat_of_zero_le b0
          refine ifF (by simp [goalV]) ⟨_, rfl, y, CE, dy, _, _, rfl, ey, N.cl, N.a0, lkZ, _, rfl, _, rfl, lw, _, rfl, SqL.of elw, fun p1 hp1 => ?_⟩
          have a1 := same_upd (o := .lst (cutV (e.ws.map V.str) none (some (-1)))) hp1
          have f1 := upd_same (H := H4) (a := p1) (o := .lst (cutV (e.ws.map V.str) none (some (-1))))
          generalize upd H4 p1 (.lst (cutV (e.ws.map V.str) none (some (-1)))) = H5 at *
          refine ⟨_, rfl, _, rfl, PySem.EiX.log_small (by omega) (by omega), by show 1 ≤ sizeLine; decide, fun p2 hp2 => ⟨p1, p2, _, _, rfl, rfl, same_upd hp2 _ _ f1, upd_same, ?_, fun p3 hp3 => ⟨p3, rfl, a1.trans ((same_upd hp2).trans (same_upd hp3)), ?_⟩⟩⟩
          · rw [cut_lastW]
            have : e.ws.length ≤ 800 := Nat.le_trans (tot_len _) (by omega)
            rw [List.length_dropLast, List.length_map]
            show _ + 1 ≤ _
            rw [sizeLine_eq]
            omega
          · rw [upd_same, cut_lastW]
            show some (HO.lst ((e.ws.map V.str).dropLast ++ [V.str (nS m)])) = some (HO.lst ((e.ws.dropLast ++ [nS m]).map V.str))
            rw [List.map_append, List.map_dropLast]
            rfl
      rintro σ H5 ⟨wl, rfl, s5, e5⟩
      have el5 := s5 _ _ el4
      have jl := join_len_le hsp (fillW e.ws o)
      refine ⟨_, rfl, .inl ⟨rfl, _, SqL.of el5⟩, ⟨_, rfl⟩, _, rfl, _, wl, _, rfl, rfl, .inl (SqL.of e5), join_sum hsp (by omega), l, _, _, rfl, rfl, el5, ?_, ?_⟩
      · rw [List.length_map, List.length_cons]
        exact small_lt (by omega)
      · refine ⟨_, _, _, rfl, ?_, ?_, ?_, ?_⟩
        · exact fun b o z => by
            rw [upd_ne (ne_of_none z hl)]
            exact s5 _ _ (s4 _ _ z)
        · have nq : q ≠ l := fun z => by
            rw [z, el4] at eq4
            injection eq4 with eq4
            injection eq4 with eq4
            cases hes : es with
            | nil =>
              rw [hes] at hem
              cases hem
            | cons e0 er =>
              rw [hes] at eq4
              injection eq4 with eq4 _
              cases hro : rightF c e0 s with
              | none =>
                rw [hro] at eq4
                cases eq4
              | some n =>
                rw [hro] at eq4
                cases eq4
          rw [upd_ne nq]
          exact s5 _ _ eq4
        · rw [upd_same, ← List.cons_append, List.map_append]
          rfl
        · rw [tot_append, tot_cons]
          have : tot ([] : List Str) = 0 := rfl
          omega
    · rintro σ H3 ⟨x3, x4, x5, rfl, s3, eq3, el3, tl3⟩
      rw [List.take_length] at el3 tl3
      refine ⟨⟨_, rfl⟩, _, rfl, _, l, _, rfl, rfl, .inl (SqL.of el3), join_sum hnl (by rw [tot_cons]; omega), k1 r0 r1 H3 s3⟩
end
end Cc

/-! Drawing in the laws of the second part: the script mixed, the next number. -/
namespace Cc
open PySem PySem.Spec PyProof.Rows L2
/-- all but two lists are kept -/
def But2 (h l : Addr) (H H1 : Hp) : Prop := ∀ b o, b ≠ h → b ≠ l → H b = some o → H1 b = some o
theorem But2.refl (h l : Addr) (H : Hp) : But2 h l H H := fun _ _ _ _ e => e
theorem But2.trans {h l : Addr} {H H1 H2 : Hp} (a : But2 h l H H1) (b : But2 h l H1 H2) : But2 h l H H2 := fun c o n1 n2 e => b c o n1 n2 (a c o n1 n2 e)
theorem But2.of {h l : Addr} {H H1 : Hp} (s : Same H H1) : But2 h l H H1 := fun b o _ _ e => s b o e
/-- the law's state -/
def NextAt (H : Hp) (h l : Addr) : Prop := ∃ (m k : Int) (ns : List Int), H h = some (.lst [.int m, .ref l, .int k]) ∧ H l = some (.lst (ns.map V.int)) ∧ ns.length ≤ 63 ∧ h ≠ l
theorem NextAt.ne {H : Hp} {h l : Addr} (n : NextAt H h l) : h ≠ l := let ⟨_, _, _, _, _, _, e⟩ := n; e
theorem NextAt.h1 {H : Hp} {h l : Addr} (n : NextAt H h l) : ∃ xs, H h = some (.lst xs) := let ⟨_, _, _, e, _⟩ := n; ⟨_, e⟩
theorem NextAt.l1 {H : Hp} {h l : Addr} (n : NextAt H h l) : ∃ xs, H l = some (.lst xs) := let ⟨_, _, _, _, e, _⟩ := n; ⟨_, e⟩
theorem NextAt.same {H H1 : Hp} {h l : Addr} (n : NextAt H h l) (s : Same H H1) : NextAt H1 h l :=
  let ⟨m, k, ns, a, b, c, d⟩ := n
  ⟨m, k, ns, s _ _ a, s _ _ b, c, d⟩
theorem But2.none {h l : Addr} {H H1 : Hp} (b : But2 h l H H1) (n : NextAt H h l) {p : Addr} (hp : H1 p = Option.none) (n1 : NextAt H1 h l) : H p = Option.none := by
  cases e : H p with
  | none => rfl
  | some o =>
    have a1 : p ≠ h := fun z => by
      subst z
      obtain ⟨xs, w⟩ := n1.h1
      rw [hp] at w
      cases w
    have a2 : p ≠ l := fun z => by
      subst z
      obtain ⟨xs, w⟩ := n1.l1
      rw [hp] at w
      cases w
    rw [b _ _ a1 a2 e] at hp
    cases hp
theorem But2.tup {h l : Addr} {H H1 : Hp} (b : But2 h l H H1) (n : NextAt H h l) : ∀ t us, H t = some (.tup us) → H1 t = some (.tup us) := fun t us e => by
  obtain ⟨xs, e1⟩ := n.h1
  obtain ⟨ys, e2⟩ := n.l1
  exact b _ _ (ne_of e e1 fun z => nomatch z) (ne_of e e2 fun z => nomatch z) e
theorem But2.ins {h l : Addr} {H H1 : Hp} (b : But2 h l H H1) (n : NextAt H h l) {p C dx : Addr} {fs : List (Str × V)} (e : H p = some (.ins C dx fs)) : H1 p = some (.ins C dx fs) := by
  obtain ⟨xs, e1⟩ := n.h1
  obtain ⟨ys, e2⟩ := n.l1
  exact b _ _ (ne_of e e1 fun z => nomatch z) (ne_of e e2 fun z => nomatch z) e
theorem sn_none {H H1 : Hp} {p : Addr} (s : Same H H1) (h : H1 p = Option.none) : H p = Option.none := by
  cases e : H p with
  | none => rfl
  | some o =>
    rw [s _ _ e] at h
    cases h
def spMix (K : PySem.W.Frag) : Sp := fun vs H Q _ => ∃ (a : Addr) (ns : List Int) (sd : Int), vs = [.ref a, .int sd] ∧ SqF K H a (ns.map V.int) ∧ ns.length ≤ 63 ∧ ∀ h l H', H h = none → H l = none → Same H H' → NextAt H' h l → Q (.ref h) H'
def spNext : Sp := fun vs H Q _ => ∃ (h l : Addr) (n : Int), vs = [.ref h, .int n] ∧ NextAt H h l ∧ 0 < n ∧ n ≤ 9223372036854775807 ∧ ∀ r H', 0 ≤ r → r < n → NextAt H' h l → But2 h l H H' → Q (.int r) H'
section
variable {P : Program} {w : World} {K : PySem.W.Frag} {mg : Str → Option Value} {base : Heap} {C TU pS gS : Addr} {mc : Value}
abbrev s__law_mix : Stmt := top 44
abbrev n__law_mix : List Str := ["_law_script", "_law_seed", "_law_mixed", "_law_cell"]
theorem sc__law_mix : FnScope n__law_mix ["_law_script", "_law_seed"] (defScope s__law_mix) := ⟨rfl, rfl, rfl, by decide +kernel, rfl, by decide +kernel, by decide +kernel⟩
theorem ok__law_mix {f : Addr} {fd : FuncData} (F : Fun K "_law_mix" "_law_mix" s__law_mix f fd) (B : Bt mg) : FnOk P w K mg base CX0 1 f fd ["_law_script", "_law_seed"] (spMix K) := by
  refine F.ok sc__law_mix (fun vs H Q E h => ?_) (fun cdv A outer s H vs Q E hr h => ?_)
  · obtain ⟨a, ns, sd, rfl, _⟩ := h
    rfl
  · obtain ⟨a, ns, sd, rfl, hF, hlen, k⟩ := h
    refine ⟨_, pss_cons (ps_set (i := 2) sc__law_mix.nd rfl (.inl rfl) (pv 1))
      (pss_cons (ps_for PassesOwn.never rfl (pi_list (pv 0)) (pg_name (i := 3) sc__law_mix.nd rfl (.inl rfl))
        (pss_one (ps_set (i := 2) sc__law_mix.nd rfl (.inl rfl) (pe_op op_mod (pe_op op_add (pe_op op_add (pe_op op_mul (pv 2) pe_int) (pe_op op_mod (pv 3) pe_int)) pe_int) pe_int))))
      (pss_one (ps_ret (pe_lst (pa_cons (pv 2) (pa_cons (pe_callTy call_list_of (by rfl) B.list (by decide +kernel) (pa_cons (pv 0) pa_nil)) (pa_cons pe_int pa_nil))))))), ?_⟩
    refine ⟨_, rfl, _, rfl, a, rfl, ⟨_, hF.sq⟩, for_list (K := K) (a := a) (xs := ns.map V.int) (fun i σ H' => H' = H ∧ ∃ (m : Int) (v : Option V), σ = [some (.ref a), some (.int sd), some (.int m), v]) ⟨rfl, sd, none, rfl⟩ (fun i σ H' _ ⟨e, _⟩ => by subst e; exact hF.sq) ?_ ?_⟩
    · rintro i x σ H' hi ⟨rfl, m, v, rfl⟩
      rw [List.getElem?_map] at hi
      obtain ⟨z, hz, rfl⟩ : ∃ z, ns[i]? = some z ∧ x = V.int z := by
        cases e : ns[i]? with
        | none =>
          rw [e] at hi
          cases hi
        | some z =>
          rw [e] at hi
          exact ⟨z, rfl, (Option.some.inj hi).symm⟩
      exact ⟨_, rfl, _, _, rfl, rfl, .inr ⟨by decide, by decide⟩, _, rfl, _, _, rfl, rfl, (by show (0 : Int) < 2147483629; decide), _, _, rfl, rfl, _, _, rfl, rfl, _, _, rfl, rfl, (by show (0 : Int) < 2147483647; decide), rfl, _, _, rfl⟩
    · rintro σ H' ⟨rfl, m, v, rfl⟩
      refine ⟨_, rfl, _, rfl, a, _, rfl, .inl hF.sq, fun l hl => ⟨by show 3 ≤ sizeLine; decide, fun h hh => ?_⟩⟩
      have hne : h ≠ l := fun z => by
        rw [z, upd_same] at hh
        cases hh
      exact k h l _ (sn_none (same_upd hl) hh) hl ((same_upd hl).trans (same_upd hh)) ⟨m, 0, ns, upd_same, (same_upd hh) _ _ upd_same, hlen, hne⟩
abbrev s__law_next : Stmt := top 45
abbrev n__law_next : List Str := ["_law_h", "_law_limit", "_law_cell"]
theorem sc__law_next : FnScope n__law_next ["_law_h", "_law_limit"] (defScope s__law_next) := ⟨rfl, rfl, rfl, by decide +kernel, rfl, by decide +kernel, by decide +kernel⟩
theorem ok__law_next {f : Addr} {fd : FuncData} (F : Fun K "_law_next" "_law_next" s__law_next f fd) (B : Bt mg) : FnOk P w K mg base CX0 1 f fd ["_law_h", "_law_limit"] spNext := by
  refine F.ok sc__law_next (fun vs H Q E h => ?_) (fun cdv A outer s H vs Q E hr h => ?_)
  · obtain ⟨h, l, n, rfl, _⟩ := h
    rfl
  · obtain ⟨h, l, n, rfl, ⟨m, kk, ns, eh, el, hlen, hne⟩, n0, n1, k⟩ := h
    refine ⟨_, pss_cons (ps_set (i := 2) sc__law_next.nd rfl (.inl rfl) (pe_ix ix_list (pe_op op_cat (pe_ix ix_list (pv 0) pe_int (fun _ _ => rfl)) (pe_lst (pa_cons pe_int pa_nil))) (pe_op op_mod (pe_ix ix_list (pv 0) pe_int (fun _ _ => rfl)) (pe_callB (call_max2 rfl) (by rfl) B.max (by decide +kernel) (pa_cons pe_int (pa_cons (pe_callB call_len_seq (by rfl) B.len PySem.boot_len (pa_cons (pe_ix ix_list (pv 0) pe_int (fun _ _ => rfl)) pa_nil)) pa_nil)))) (fun _ _ => rfl)))
      (pss_cons (ps_if (pt_cmpR op_ge (pv 2) (pe_op op_pow pe_int pe_int) (nomark _))
        (pss_cons (ps_asg (pe_op op_fdivW (pv 2) (pv 1)) (pg_sub (pe_ix ix_list (pv 0) pe_int (fun _ _ => rfl)) (pe_op op_mod (pe_ix ix_list (pv 0) pe_int (fun _ _ => rfl)) (pe_callB call_len_seq (by rfl) B.len PySem.boot_len (pa_cons (pe_ix ix_list (pv 0) pe_int (fun _ _ => rfl)) pa_nil))) set_list))
        (pss_one (ps_ret (pe_op op_mod (pv 2) (pv 1))))) pss_nil)
      (pss_cons (ps_asg (pe_op op_mod (pe_op op_add (pe_op op_add (pe_op op_mul (pe_ix ix_list (pv 0) pe_int (fun _ _ => rfl)) pe_int) (pe_op op_mul (pv 2) pe_int)) pe_int) pe_int) (pg_sub (pv 0) pe_int set_list))
      (pss_cons (ps_asg (pe_op op_add (pe_ix ix_list (pv 0) pe_int (fun _ _ => rfl)) pe_int) (pg_sub (pv 0) pe_int set_list))
      (pss_one (ps_ret (pe_op op_mod (pe_op op_fdiv (pe_ix ix_list (pv 0) pe_int (fun _ _ => rfl)) pe_int) (pv 1))))))), ?_⟩
    have hw : ∀ i, CDivW i n := fun i => wide_div (b := 63) n0 (by omega) (by decide) (by decide)
    refine ⟨_, rfl, h, _, _, _, rfl, rfl, SqL.of eh, at_of (j := 1) rfl rfl, by show 1 ≤ sizeLine; decide, fun p1 hp1 => ?_⟩
    have s1 := same_upd (o := .lst [.int 0]) hp1
    have lm : (ns.map V.int).length = ns.length := List.length_map ..
    refine ⟨l, p1, _, _, rfl, rfl, s1 _ _ el, upd_same, by rw [lm, sizeLine_eq]; show ns.length + 1 ≤ _; omega, fun p2 hp2 => ?_⟩
    have s2 := s1.trans (same_upd (o := .lst (ns.map V.int ++ [.int 0])) hp2)
    have e2 : (upd (upd H p1 (.lst [.int 0])) p2 (.lst (ns.map V.int ++ [.int 0]))) p2 = some (.lst ((ns ++ [0]).map V.int)) := upd_lst (by rw [List.map_append]; rfl)
    generalize upd (upd H p1 (.lst [.int 0])) p2 (.lst (ns.map V.int ++ [.int 0])) = H2 at *
    have eh2 := s2 _ _ eh
    have el2 := s2 _ _ el
    refine ⟨_, rfl, h, _, _, _, rfl, rfl, SqL.of eh2, at_of (j := 2) rfl rfl, _, rfl, h, _, _, _, rfl, rfl, SqL.of eh2, at_of (j := 1) rfl rfl, l, _, rfl, .inl (SqL.of el2), 1, _, rfl, ?_⟩
    rw [lm]
    have mpos : (0 : Int) < (if (ns.length : Int) > 1 then (ns.length : Int) else 1) := by split <;> omega
    refine ⟨_, _, rfl, rfl, mpos, ?_⟩
    obtain ⟨j, ej⟩ : ∃ j : Nat, kk % (if (ns.length : Int) > 1 then (ns.length : Int) else 1) = (j : Int) := ⟨(kk % (if (ns.length : Int) > 1 then (ns.length : Int) else 1)).toNat, by rw [Int.toNat_of_nonneg (Int.emod_nonneg _ (by omega))]⟩
    have hj : j < ns.length + 1 := by
      have z := Int.emod_lt_of_pos kk mpos
      rw [ej] at z
      split at z <;> omega
    obtain ⟨cell, hc⟩ : ∃ cell, (ns ++ [0])[j]? = some cell := ⟨_, List.getElem?_eq_getElem (by rw [List.length_append]; exact hj)⟩
    refine ⟨p2, _, _, _, rfl, rfl, SqL.of e2, at_of (j := j) (v := V.int cell) ej (by rw [List.getElem?_map, hc]; rfl), ?_⟩
    refine ⟨_, rfl, _, _, rfl, rfl, ⟨by decide, by decide, by decide⟩, _, _, rfl, rfl, _, rfl, ?_⟩
    have b02 : But2 h l H H2 := But2.of s2
    have fin : ∀ (r m' k' : Int) (ns' : List Int) (H' : Hp), 0 ≤ r → r < n → ns'.length = ns.length → H' h = some (.lst [.int m', .ref l, .int k']) → H' l = some (.lst (ns'.map V.int)) → But2 h l H2 H' → Q (.int r) H' := fun r m' k' ns' H' r0 r1 nl e1 e2 b =>
      k r H' r0 r1 ⟨m', k', ns', e1, e2, by omega, hne⟩ (b02.trans b)
    refine ite2 (fun c => ?_) (fun _ => ?_)
    · have c18 : (10 : Int) ^ (18 : Int).toNat ≤ cell := of_decide_eq_true c
      have hjn : j < ns.length := by
        rcases Nat.lt_or_ge j ns.length with z | z
        · exact z
        · exfalso
          have : j = ns.length := by omega
          subst this
          rw [List.getElem?_append_right (Nat.le_refl _), Nat.sub_self] at hc
          cases hc
          exact absurd c18 (by decide)
      have npos : (0 : Int) < (ns.length : Int) := by omega
      have em : kk % (ns.length : Int) = (j : Int) := by
        rw [← ej]
        by_cases g : (ns.length : Int) > 1
        · rw [if_pos g]
        · rw [if_neg g]
          have : (ns.length : Int) = 1 := by omega
          rw [this]
      refine ⟨_, rfl, _, rfl, _, _, rfl, rfl, hw _, ?_⟩
      refine ⟨_, rfl, h, _, _, _, rfl, rfl, SqL.of eh2, at_of (j := 1) rfl rfl, _, rfl, h, _, _, _, rfl, rfl, SqL.of eh2, at_of (j := 2) rfl rfl, _, rfl, h, _, _, _, rfl, rfl, SqL.of eh2, at_of (j := 1) rfl rfl, l, _, rfl, .inl (SqL.of el2), _, _, rfl, rfl, by rw [lm]; exact npos, ?_⟩
      have ix : ixN (ns.map V.int).length (kk % ((ns.map V.int).length : Int)) = some j := by
        rw [lm, em]
        unfold ixN
        rw [if_pos (by omega), if_pos (by omega), Int.toNat_natCast]
      refine ⟨l, _, _, j, rfl, rfl, el2, ix, ?_⟩
      refine ⟨_, rfl, _, rfl, _, _, rfl, rfl, n0, ?_⟩
      have ns' : (ns.map V.int).set j (.int (cell / n)) = (ns.set j (cell / n)).map V.int := by rw [List.map_set]
      refine fin (cell % n) m kk (ns.set j (cell / n)) _ (Int.emod_nonneg _ (by omega)) (Int.emod_lt_of_pos _ n0) (List.length_set ..) (by rw [upd_ne hne]; exact eh2) (upd_lst ns') fun b o _ nl e => by rw [upd_ne nl]; exact e
    · refine ⟨_, rfl, h, _, _, _, rfl, rfl, SqL.of eh2, at_of (j := 0) rfl rfl, _, _, rfl, rfl, .inr ⟨by decide, by decide⟩, _, rfl, _, _, rfl, rfl, .inr ⟨by decide, by decide⟩, _, _, rfl, rfl, _, _, rfl, rfl, _, _, rfl, rfl, (by show (0 : Int) < 2147483647; decide), ?_⟩
      refine ⟨_, rfl, h, _, _, 0, rfl, rfl, eh2, rfl, ?_⟩
      refine ⟨_, rfl, h, _, _, _, rfl, rfl, SqL.of upd_same, at_of (j := 2) rfl rfl, _, _, rfl, rfl, ?_⟩
      refine ⟨_, rfl, h, _, _, 2, rfl, rfl, upd_same, rfl, ?_⟩
      refine ⟨_, rfl, h, _, _, _, rfl, rfl, SqL.of upd_same, at_of (j := 0) rfl rfl, _, _, rfl, rfl, ⟨by decide, by decide⟩, _, rfl, _, _, rfl, rfl, n0, ?_⟩
      refine fin _ _ _ ns _ (Int.emod_nonneg _ (by omega)) (Int.emod_lt_of_pos _ n0) rfl upd_same (by rw [upd_ne (Ne.symm hne), upd_ne (Ne.symm hne)]; exact el2) fun b o nh _ e => by rw [upd_ne nh, upd_ne nh]; exact e
end
end Cc

/-! The law of daybooks: what refuses a text. -/
namespace Cc
open PySem PySem.Spec PyProof.Rows L2 TL
def lstepF (c pl : Int) (t : Bool) : Stp → Int × Bool × Int
  | .turn => (pl, !t, 0)
  | .meet b n => if b != t then ((if n > pl then n else pl), t, ab ((if n > pl then n else pl) - pl)) else ((if c - n < pl then c - n else pl), t, ab ((if c - n < pl then c - n else pl) - pl))
def spLStep : Sp := fun vs H Q _ => ∃ (c pl : Int) (t : Bool) (v : V) (s : Stp), vs = [.int c, .int pl, .bl t, v] ∧ StepAt H v s ∧ ∀ q H', Same H H' → H' q = some (.tup [.int (lstepF c pl t s).1, .bl (lstepF c pl t s).2.1, .int (lstepF c pl t s).2.2]) → Q (.ref q) H'
def spLNum : Sp := fun vs H Q _ => ∃ (x : Str) (m : Int), vs = [.str x, .int m] ∧ okS x ∧ x.length ≤ 600 ∧ ∀ H', Same H H' → Q (.bl (numOk m x)) H'
def bdV : Option Nat → V
  | none => .non
  | some k => .int (k : Nat)
def spLBad : Sp := fun vs H Q _ => ∃ t : Str, vs = [.str t] ∧ okS t ∧ t.length ≤ 3000 ∧ (∀ y ∈ lines t, y.length ≤ 600) ∧ ∀ H', Same H H' → Q (bdV (badF (rowsT t))) H'
theorem sign_lt (a b : Nat) : (!decide ((⟨#[a]⟩ : Str).cps.toList < (⟨#[b]⟩ : Str).cps.toList)) = decide (b ≤ a) := by
  show (!decide ([a] < [b])) = _
  rw [← decide_not]
  refine decide_eq_decide.mpr ?_
  rw [List.cons_lt_cons_iff]
  simp
def oddC (l : List Nat) : List Nat := l.filter fun c => !decide (48 ≤ c ∧ c ≤ 57)
abbrev sg (c : Nat) : Str := ⟨#[c]⟩
theorem oddC_nil (l : List Nat) : decide ((oddC l).map sg = []) = digs l := by
  rw [Bool.eq_iff_iff, decide_eq_true_iff, List.map_eq_nil_iff]
  unfold oddC digs
  rw [List.filter_eq_nil_iff, List.all_eq_true]
  refine forall_congr' fun c => forall_congr' fun _ => ?_
  simp
theorem sg_ok {c : Nat} (h : c < 1114112) : okS (sg c) := fun d hd => by
  have e : d = c := List.mem_singleton.mp hd
  rw [e]
  exact h
theorem small_lt' {n : Nat} (h : n ≤ 10000000) : n < sizeLine := by
  rw [sizeLine_eq]
  omega
/-- a list of words -/
def WAt (H : Hp) (v : V) (ws : List Str) : Prop := ∃ a, v = .ref a ∧ H a = some (.lst (ws.map V.str)) ∧ ws ≠ []
theorem wat_same {H H' : Hp} {v : V} {ws : List Str} (h : WAt H v ws) (s : Same H H') : WAt H' v ws :=
  let ⟨a, e, g, n⟩ := h
  ⟨a, e, s _ _ g, n⟩
theorem wat_upd {l : Addr} {H : Hp} {vs : List V} {o : HO} {v : V} {ws : List Str} (h : WAt H v ws) (el : H l = some (.lst vs)) (hr : ∀ u ∈ vs, IsRef u) : WAt (upd H l o) v ws := by
  obtain ⟨a, e, g, n⟩ := h
  refine ⟨a, e, ?_, n⟩
  have n1 : a ≠ l := fun z => by
    subst z
    rw [g] at el
    injection el with el
    injection el with el
    cases hw : ws with
    | nil => exact n hw
    | cons x r =>
      rw [hw] at el
      obtain ⟨q, hq⟩ := hr (V.str x) (by rw [← el]; exact List.mem_cons_self)
      cases hq
  rw [upd_ne n1]
  exact g
theorem wat_refs {H : Hp} : ∀ {vs : List V} {rs : List (List Str)}, Paired (WAt H) vs rs → ∀ u ∈ vs, IsRef u
  | _, _, .cons h p, u, hu => by
    rcases (List.mem_cons.mp hu) with rfl | hu
    · obtain ⟨q, e, _⟩ := h
      exact ⟨q, e⟩
    · exact wat_refs p u hu
  | _, _, .nil, u, hu => by cases hu
theorem pair_at {α β : Type} {R : α → β → Prop} : ∀ {vs : List α} {ss : List β} {i : Nat} {s : β}, Paired R vs ss → ss[i]? = some s → ∃ v, vs[i]? = some v ∧ R v s
  | [], [], i, v, .nil, e => by simp at e
  | _, _, 0, v, .cons r _, e => by
    have e' : _ = v := Option.some.inj e
    subst e'
    exact ⟨_, rfl, r⟩
  | _ :: vs, _ :: ss, i + 1, v, .cons _ p, e => pair_at (vs := vs) (ss := ss) (i := i) p (by simpa using e)
theorem headV_some {ws : List Str} {c : Int} (h : headV ws = some c) : ws.length = 2 ∧ at0 ws 0 = "chairs" ∧ numOk 1000000000000000000 (at0 ws 1) = true ∧ c = (valL (tl (at0 ws 1)) : Int) := by
  unfold headV at h
  split at h
  · rename_i z
    injection h with h
    rw [Bool.and_eq_true, Bool.and_eq_true] at z
    exact ⟨of_decide_eq_true z.1.1, of_decide_eq_true z.1.2, z.2, h.symm⟩
  · cases h
theorem headV_none {ws : List Str} (h : ¬ (ws.length = 2 ∧ at0 ws 0 = "chairs" ∧ numOk 1000000000000000000 (at0 ws 1) = true)) : headV ws = none := by
  unfold headV
  rw [if_neg]
  rw [Bool.and_eq_true]; rw [Bool.and_eq_true]
  exact fun y => h ⟨of_decide_eq_true y.1.1, of_decide_eq_true y.1.2, y.2⟩
theorem numOk_int {m : Int} {x : Str} (h : numOk m x = true) (l : x.length ≤ 600) : PySem.intText? x = some ((valL (tl x) : Nat) : Int) := by
  unfold numOk at h
  rw [Bool.and_eq_true] at h
  have hn := h.1
  unfold natOk at hn
  rw [Bool.and_eq_true, Bool.and_eq_true] at hn
  exact PySem.intText_digits (fun c hc => digs_mem hn.1.2 c hc) (fun z => by have z' : tl x = [] := z; rw [z'] at hn; exact absurd hn.1.1 (by decide)) (by omega)
theorem row_a {c : Int} {ws : List Str} (h : ¬ 1 < ws.length) : rowOk c ws = isTurnW ws := by
  unfold rowOk hasW carW
  rw [decide_eq_false (show ¬ ws.length = 3 by omega), decide_eq_false (show ¬ ws.length = 4 by omega)]
  simp
theorem row_b {c : Int} {ws : List Str} (h : isRoom (at0 ws 0) = false) : rowOk c ws = isTurnW ws := by
  unfold rowOk
  rw [h]
  simp
theorem row_c {c : Int} {ws : List Str} (h : 1 < ws.length) (hr : isRoom (at0 ws 0) = true) : isTurnW ws = false ∧ rowOk c ws = (known (lastW ws) && (hasW ws || carW c ws)) := by
  have e : isTurnW ws = false := decide_eq_false fun z => by
    rw [z] at h
    exact absurd h (by decide)
  refine ⟨e, ?_⟩
  unfold rowOk
  rw [e, hr]
  simp
theorem last_mem {ws : List Str} (h : ws ≠ []) : lastW ws ∈ ws := by
  unfold lastW
  rw [List.getLastD_eq_getLast?, List.getLast?_eq_some_getLast h]
  exact List.getLast_mem h
theorem at0_mem {ws : List Str} {i : Nat} (h : i < ws.length) : at0 ws i ∈ ws := by
  unfold at0
  rw [List.getD_eq_getElem?_getD, List.getElem?_eq_getElem h]
  exact List.getElem_mem h
section
variable {P : Program} {w : World} {K : PySem.W.Frag} {mg : Str → Option Value} {base : Heap} {C TU pS gS : Addr} {mc : Value}
abbrev s__law_step : Stmt := top 48
abbrev n__law_step : List Str := ["_law_chairs", "_law_place", "_law_turned", "_law_step_here", "_law_later"]
theorem sc__law_step : FnScope n__law_step ["_law_chairs", "_law_place", "_law_turned", "_law_step_here"] (defScope s__law_step) := ⟨rfl, rfl, rfl, by decide +kernel, rfl, by decide +kernel, by decide +kernel⟩
theorem ok__law_step {f : Addr} {fd : FuncData} (F : Fun K "_law_step" "_law_step" s__law_step f fd) (B : Bt mg) : FnOk P w K mg base CX0 1 f fd ["_law_chairs", "_law_place", "_law_turned", "_law_step_here"] spLStep := by
  refine F.ok sc__law_step (fun vs H Q E h => ?_) (fun cdv A outer s H vs Q E hr h => ?_)
  · obtain ⟨c, pl, t, v, s, rfl, _⟩ := h
    rfl
  · obtain ⟨c, pl, t, v, s, rfl, ⟨ts, ev, hts⟩, k⟩ := h
    refine ⟨_, pss_cons (ps_if (pt_cmpR op_eq (pe_ix ix_tup (pv 3) pe_int (fun _ _ => rfl)) pe_str (nomark _))
        (pss_one (ps_ret (pe_tup (pa_cons (pv 1) (pa_cons (pe_not (pv 2)) (pa_cons pe_int pa_nil)))))) pss_nil)
      (pss_cons (ps_if (pt_cmpR op_ne (pe_cmpR op_eq (pe_ix ix_tup (pv 3) pe_int (fun _ _ => rfl)) pe_str (nomark _)) (pv 2) (nomark _))
        (pss_one (ps_set (i := 4) sc__law_step.nd rfl (.inl rfl) (pe_callB (call_max2 rfl) (by rfl) B.max (by decide +kernel) (pa_cons (pv 1) (pa_cons (pe_ix ix_tup (pv 3) pe_int (fun _ _ => rfl)) pa_nil)))))
        (pss_one (ps_set (i := 4) sc__law_step.nd rfl (.inl rfl) (pe_callB (call_min2 rfl) (by rfl) B.min (by decide +kernel) (pa_cons (pv 1) (pa_cons (pe_op op_sub (pv 0) (pe_ix ix_tup (pv 3) pe_int (fun _ _ => rfl))) pa_nil))))))
      (pss_one (ps_ret (pe_tup (pa_cons (pv 4) (pa_cons (pv 2) (pa_cons (pe_callB call_abs (by rfl) B.abs (by decide +kernel) (pa_cons (pe_op op_sub (pv 4) (pv 1)) pa_nil)) pa_nil))))))), ?_⟩
    subst ev
    cases s with
    | turn =>
      refine ⟨_, rfl, ts, _, _, _, rfl, rfl, SqT.of hts, at_of (j := 0) rfl rfl, rfl, _, rfl, ifT (by decide +kernel) ?_⟩
      exact ⟨_, rfl, _, rfl, _, rfl, by show 3 ≤ sizeLine; decide, fun q hq => k q _ (same_upd hq) upd_same⟩
    | meet b n =>
      refine ⟨_, rfl, ts, _, _, _, rfl, rfl, SqT.of hts, at_of (j := 0) rfl rfl, rfl, _, rfl, ifF (by cases b <;> decide +kernel) ?_⟩
      refine ⟨_, rfl, ts, _, _, _, rfl, rfl, SqT.of hts, at_of (j := 0) rfl rfl, rfl, _, rfl, rfl, _, rfl, ?_⟩
      have er : (!decide (V.bl (decide (V.str (roomS b) = V.str "red")) = V.bl t)) = (b != t) := by
        rw [room_eq, bl_eq]
        rfl
      rw [er]
      by_cases hb : (b != t) = true
      · refine ifT hb ?_
        refine ⟨_, rfl, _, rfl, ts, _, _, _, rfl, rfl, SqT.of hts, at_of (j := 1) rfl rfl, _, _, rfl, ?_⟩
        have e : lstepF c pl t (.meet b n) = ((if n > pl then n else pl), t, ab ((if n > pl then n else pl) - pl)) := if_pos hb
        rw [e] at k
        exact ⟨_, rfl, _, rfl, _, rfl, _, rfl, _, _, rfl, rfl, _, rfl, by show 3 ≤ sizeLine; decide, fun q hq => k q _ (same_upd hq) upd_same⟩
      · refine ifF (by simpa using hb) ?_
        refine ⟨_, rfl, _, rfl, _, rfl, ts, _, _, _, rfl, rfl, SqT.of hts, at_of (j := 1) rfl rfl, _, _, rfl, rfl, _, _, rfl, ?_⟩
        have e : lstepF c pl t (.meet b n) = ((if c - n < pl then c - n else pl), t, ab ((if c - n < pl then c - n else pl) - pl)) := if_neg hb
        rw [e] at k
        exact ⟨_, rfl, _, rfl, _, rfl, _, rfl, _, _, rfl, rfl, _, rfl, by show 3 ≤ sizeLine; decide, fun q hq => k q _ (same_upd hq) upd_same⟩
end
end Cc

/-! The law of daybooks: rows drawn, a text changed. -/
namespace Cc
open PySem PySem.Spec PyProof.Rows L2 TL
/-- a row that the law has drawn: a turn, or what it begins with and its number -/
def RowV (H : Hp) (c : Int) (v : V) : Prop := v = .str "turn" ∨ ∃ a s n, v = .ref a ∧ H a = some (.lst [.str s, .int (n : Nat)]) ∧ PreOk c s ∧ n ≤ 12
theorem rowv_keep {H H' : Hp} {c : Int} {v : V} (h : RowV H c v) (k : ∀ (a : Addr) (s : Str) (n : Nat), H a = some (.lst [.str s, .int n]) → H' a = some (.lst [.str s, .int n])) : RowV H' c v := by
  rcases h with h | ⟨a, s, n, e, g, p⟩
  · exact .inl h
  · exact .inr ⟨a, s, n, e, k _ _ _ g, p⟩
theorem rowv_same {H H' : Hp} {c : Int} {v : V} (h : RowV H c v) (k : Same H H') : RowV H' c v := rowv_keep h fun _ _ _ => k _ _
theorem rowv_but2 {H H' : Hp} {c : Int} {v : V} {h l : Addr} (r : RowV H c v) (n : NextAt H h l) (b : But2 h l H H') : RowV H' c v := rowv_keep r fun a s k g => by
  obtain ⟨m, kk, ns, e1, e2, _, _⟩ := n
  refine b _ _ (ne_of g e1 fun z => ?_) (ne_of g e2 fun z => ?_) g
  · injection z with z
    injection z with z _
    cases z
  · injection z with z
    cases ns with
    | nil => cases z
    | cons x r =>
      injection z with z _
      cases z
theorem rowv_upd {H : Hp} {c : Int} {v : V} {r0 : Addr} {vs : List V} {o : HO} (r : RowV H c v) (e : H r0 = some (.lst vs)) (hv : ∀ u ∈ vs, RowV H c u) : RowV (upd H r0 o) c v := rowv_keep r fun a s k g => by
  rw [upd_ne (ne_of g e fun z => ?_)]
  · exact g
  · injection z with z
    have := hv (.int (k : Nat)) (by rw [← z]; exact List.mem_cons_of_mem _ List.mem_cons_self)
    rcases this with q | ⟨_, _, _, q, _⟩
    · cases q
    · cases q
theorem rowv_updS {H : Hp} {c : Int} {v : V} {f : Addr} {xs : List Str} {o : HO} (r : RowV H c v) (e : H f = some (.lst (xs.map V.str))) : RowV (upd H f o) c v := rowv_keep r fun a s k g => by
  rw [upd_ne (ne_of g e fun z => ?_)]
  · exact g
  · injection z with z
    match xs, z with
    | [_, _], z =>
      injection z with _ z
      injection z with z _
      cases z
theorem next_upd {H : Hp} {h l r0 : Addr} {o : HO} (n : NextAt H h l) (nh : r0 ≠ h) (nl : r0 ≠ l) : NextAt (upd H r0 o) h l :=
  let ⟨m, k, ns, a, b, c, d⟩ := n
  ⟨m, k, ns, by rw [upd_ne (Ne.symm nh)]; exact a, by rw [upd_ne (Ne.symm nl)]; exact b, c, d⟩
structure RInv (H H' : Hp) (h l r0 : Addr) (c : Int) (vs : List V) : Prop where
  n : NextAt H' h l
  b : But2 h l H H'
  e : H' r0 = some (.lst vs)
  rv : ∀ v ∈ vs, RowV H' c v
theorem RInv.same {H H1 H2 : Hp} {h l r0 : Addr} {c : Int} {vs : List V} (r : RInv H H1 h l r0 c vs) (s : Same H1 H2) : RInv H H2 h l r0 c vs := ⟨r.n.same s, r.b.trans (But2.of s), s _ _ r.e, fun v hv => rowv_same (r.rv v hv) s⟩
theorem RInv.but {H H1 H2 : Hp} {h l r0 : Addr} {c : Int} {vs : List V} (r : RInv H H1 h l r0 c vs) (nh : r0 ≠ h) (nl : r0 ≠ l) (n : NextAt H2 h l) (b : But2 h l H1 H2) : RInv H H2 h l r0 c vs := ⟨n, r.b.trans b, b _ _ nh nl r.e, fun v hv => rowv_but2 (r.rv v hv) r.n b⟩
theorem RInv.push {H H1 : Hp} {h l r0 : Addr} {c : Int} {vs : List V} {v : V} (r : RInv H H1 h l r0 c vs) (hr0 : H r0 = none) (nh : r0 ≠ h) (nl : r0 ≠ l) (hv : RowV H1 c v) : RInv H (upd H1 r0 (.lst (vs ++ [v]))) h l r0 c (vs ++ [v]) := by
  refine ⟨next_upd r.n nh nl, fun b o a1 a2 e => ?_, upd_same, fun u hu => ?_⟩
  · rw [upd_ne (ne_of_none e hr0)]
    exact r.b _ _ a1 a2 e
  · rcases List.mem_append.mp hu with q | q
    · exact rowv_upd (r.rv u q) r.e r.rv
    · rw [List.mem_singleton.mp q]
      exact rowv_upd hv r.e r.rv
theorem shaped_row {s : Str} {n : Int} (h : okS s) : SeqAt.shaped (.list [.str s, .int n]) = true := by
  have a := strOk_of h
  unfold SeqAt.shaped
  show ((PyData.canLay0 (.str s) && (PyData.canLay0 (.int n) && true)) && decide (max 0 (max 0 0) + 1 ≤ 64)) = true
  rw [a]
  rfl
def spRowsL : Sp := fun vs H Q _ => ∃ (h l : Addr) (c r hd : Int), vs = [.ref h, .int c, .int r, .int hd] ∧ NextAt H h l ∧ 0 ≤ c ∧ c ≤ 12 ∧ 0 ≤ r ∧ r ≤ c ∧ 0 < hd ∧ hd ≤ 100 ∧
  ∀ q H' xs, NextAt H' h l → But2 h l H H' → H q = none → H' q = some (.lst (((Str.ofString "chairs " ++ nS c.toNat) :: xs).map V.str)) → (∀ x ∈ xs, LineOk c x) → xs.length ≤ 7 → Q (.ref q) H'
theorem lstep_in {c pl : Int} {t : Bool} {b : Bool} {n : Int} (p0 : 0 ≤ pl) (p1 : pl ≤ c) (n0 : 0 ≤ n) (n1 : n ≤ c) : 0 ≤ (lstepF c pl t (.meet b n)).1 ∧ (lstepF c pl t (.meet b n)).1 ≤ c ∧ 0 ≤ (lstepF c pl t (.meet b n)).2.2 ∧ (lstepF c pl t (.meet b n)).2.2 ≤ c := by
  by_cases hb : (b != t) = true
  · have e : lstepF c pl t (.meet b n) = ((if n > pl then n else pl), t, ab ((if n > pl then n else pl) - pl)) := if_pos hb
    rw [e]
    unfold ab
    dsimp only
    split <;> split <;> omega
  · have e : lstepF c pl t (.meet b n) = ((if c - n < pl then c - n else pl), t, ab ((if c - n < pl then c - n else pl) - pl)) := if_neg hb
    rw [e]
    unfold ab
    dsimp only
    split <;> split <;> omega
theorem log_smallN {n : Nat} (h : n < 1000) : (n : Int).natAbs.log2 < 1920 := by
  have : n.log2 ≤ n := Nat.log2_le_self n
  show n.log2 < 1920
  omega
section
variable {P : Program} {w : World} {K : PySem.W.Frag} {mg : Str → Option Value} {base : Heap} {C TU pS gS : Addr} {mc : Value}
abbrev s__law_rows : Stmt := top 50
abbrev n__law_rows : List Str := ["_law_h", "_law_chairs", "_law_start", "_law_hidden", "_law_place", "_law_turned", "_law_rows_here", "_law_k", "_law_kind", "_law_room", "_law_number", "_law_need", "_law_count", "_law_found", "_law_row", "_law_way"]
theorem sc__law_rows : FnScope n__law_rows ["_law_h", "_law_chairs", "_law_start", "_law_hidden"] (defScope s__law_rows) := ⟨rfl, rfl, rfl, by decide +kernel, rfl, by decide +kernel, by decide +kernel⟩
theorem ok__law_rows {f f__law_next f__law_step : Addr} {fd : FuncData} (F : Fun K "_law_rows" "_law_rows" s__law_rows f fd) (B : Bt mg) (D__law_next : Dn P w K mg base 1 "_law_next" f__law_next spNext) (D__law_step : Dn P w K mg base 1 "_law_step" f__law_step spLStep) : FnOk P w K mg base CX0 2 f fd ["_law_h", "_law_chairs", "_law_start", "_law_hidden"] spRowsL := by
  refine F.ok sc__law_rows (fun vs H Q E h => ?_) (fun cdv A outer s H vs Q E hr h => ?_)
  · obtain ⟨h, l, c, r, hd, rfl, _⟩ := h
    rfl
  · obtain ⟨h, l, c, r, hd, rfl, N0, c0, c1, p0, p1, d0, d1, k⟩ := h
    refine ⟨_, pss_cons (ps_par3 (i := 4) (j := 5) (l := 6) rfl sc__law_rows.nd rfl rfl rfl (by decide) (by decide) (by decide) rfl rfl rfl (pa_cons (pv 2) (pa_cons pe_bl (pa_cons (pe_lst pa_nil) pa_nil))) (by rfl))
      (pss_cons (ps_for PassesOwn.never rfl (pi_range1 rfl B.range (pa_cons (pe_callR D__law_next.ok (hr.mono (by decide)) rfl D__law_next.at_ D__law_next.kp pass0 (pa_cons (pv 0) (pa_cons pe_int pa_nil))) pa_nil)) (pg_name (i := 7) sc__law_rows.nd rfl (.inl rfl))
        (pss_cons (ps_par (i := 8) (j := 9) rfl sc__law_rows.nd rfl rfl (by decide) rfl rfl (pa_cons (pe_callR D__law_next.ok (hr.mono (by decide)) rfl D__law_next.at_ D__law_next.kp pass0 (pa_cons (pv 0) (pa_cons pe_int pa_nil))) (pa_cons (pe_ix ix_list (pe_lst (pa_cons pe_str (pa_cons pe_str pa_nil))) (pe_callR D__law_next.ok (hr.mono (by decide)) rfl D__law_next.at_ D__law_next.kp pass0 (pa_cons (pv 0) (pa_cons pe_int pa_nil))) (fun _ _ => rfl)) pa_nil)) (by rfl))
        (pss_one (ps_if (pt_cmpR op_eq (pv 8) pe_int (nomark _))
          (pss_cons (ps_set (i := 5) sc__law_rows.nd rfl (.inl rfl) (pe_not (pv 5)))
          (pss_one (ps_expr (pe_bm PySem.F.plainAttrs_list PySem.F.slot_list_append PySem.F.type_list_append mt_append (pv 6) (pa_cons pe_str pa_nil)))))
          (pss_one (ps_if (pt_cmpR op_eq (pv 8) pe_int (nomark _))
            (pss_cons (ps_set (i := 10) sc__law_rows.nd rfl (.inl rfl) (pe_ifExp (pt_cmpR op_ne (pe_cmpR op_eq (pv 9) pe_str (nomark _)) (pv 5) (nomark _)) (pv 4) (pe_op op_sub (pv 1) (pv 4))))
            (pss_one (ps_expr (pe_bm PySem.F.plainAttrs_list PySem.F.slot_list_append PySem.F.type_list_append mt_append (pv 6) (pa_cons (pe_lst (pa_cons (pe_op op_add_str (pv 9) pe_str) (pa_cons (pv 10) pa_nil))) pa_nil)))))
            (pss_cons (ps_set (i := 11) sc__law_rows.nd rfl (.inl rfl) (pe_callR D__law_next.ok (hr.mono (by decide)) rfl D__law_next.at_ D__law_next.kp pass0 (pa_cons (pv 0) (pa_cons (pe_op op_add (pv 1) pe_int) pa_nil))))
            (pss_cons (ps_asg (pe_callR D__law_step.ok (hr.mono (by decide)) rfl D__law_step.at_ D__law_step.kp pass0 (pa_cons (pv 1) (pa_cons (pv 4) (pa_cons (pv 5) (pa_cons (pe_tup (pa_cons (pv 9) (pa_cons (pv 11) pa_nil))) pa_nil))))) (pg_tup rfl (pgs_cons (pg_name (i := 4) sc__law_rows.nd rfl (.inl rfl)) (pgs_cons (pg_name (i := 5) sc__law_rows.nd rfl (.inl rfl)) (pgs_cons (pg_name (i := 12) sc__law_rows.nd rfl (.inl rfl)) pgs_nil)))))
            (pss_one (ps_expr (pe_bm PySem.F.plainAttrs_list PySem.F.slot_list_append PySem.F.type_list_append mt_append (pv 6) (pa_cons (pe_lst (pa_cons (pe_op op_add_str (pe_op op_add_str (pe_op op_add_str (pv 9) pe_str) (pe_callTy call_str_int (by rfl) B.str (by decide +kernel) (pa_cons (pv 11) pa_nil))) pe_str) (pa_cons (pv 12) pa_nil))) pa_nil))))))))))))
      (pss_cons (ps_set (i := 13) sc__law_rows.nd rfl (.inl rfl) (pe_lst (pa_cons (pe_op op_add_str pe_str (pe_callTy call_str_int (by rfl) B.str (by decide +kernel) (pa_cons (pv 1) pa_nil))) pa_nil)))
      (pss_cons (ps_for PassesOwn.never rfl (pi_list (pv 6)) (pg_name (i := 14) sc__law_rows.nd rfl (.inl rfl))
        (pss_one (ps_if (pt_cmpR (op_eqD hr.units) (pv 14) pe_str (nomark _))
          (pss_one (ps_expr (pe_bm PySem.F.plainAttrs_list PySem.F.slot_list_append PySem.F.type_list_append mt_append (pv 13) (pa_cons (pv 14) pa_nil))))
          (pss_cons (ps_set (i := 15) sc__law_rows.nd rfl (.inl rfl) (pe_callR D__law_next.ok (hr.mono (by decide)) rfl D__law_next.at_ D__law_next.kp pass0 (pa_cons (pv 0) (pa_cons (pv 3) pa_nil))))
          (C8.pss_cut (ps_set (i := 10) sc__law_rows.nd rfl (.inl rfl) (pe_ifExp (pt_cmpR op_eq (pv 15) pe_int (nomark _)) pe_str (pe_callTy call_str_int (by rfl) B.str (by decide +kernel) (pa_cons (pe_op op_add (pe_ix ix_list (pv 14) pe_int (fun _ _ => rfl)) (pe_callTy call_int1 (by rfl) B.int (by decide +kernel) (pa_cons (pe_and (pe_cmpR op_eq (pv 15) pe_int (nomark _)) (pe_one (pe_cmpR op_eq (pe_callR D__law_next.ok (hr.mono (by decide)) rfl D__law_next.at_ D__law_next.kp pass0 (pa_cons (pv 0) (pa_cons pe_int pa_nil))) pe_int (nomark _)))) pa_nil))) pa_nil))))
          (pss_one (ps_expr (pe_bm PySem.F.plainAttrs_list PySem.F.slot_list_append PySem.F.type_list_append mt_append (pv 13) (pa_cons (pe_op op_add_str (pe_ix ix_list (pv 14) pe_int (fun _ _ => rfl)) (pv 10)) pa_nil)))))))))
      (pss_one (ps_ret (pv 13)))))), ?_⟩
    refine ⟨_, rfl, by show 0 ≤ sizeLine; decide, fun r0 hr0 => ?_⟩
    have nh : r0 ≠ h := let ⟨_, e⟩ := N0.h1; (ne_of_none e hr0).symm
    have nl : r0 ≠ l := let ⟨_, e⟩ := N0.l1; (ne_of_none e hr0).symm
    have s0 := same_upd (o := .lst []) hr0
    refine ⟨_, _, _, rfl, _, rfl, h, l, 8, rfl, N0.same s0, by decide, by decide, fun kn H1 k0 k1 N1 b1 => ⟨kn, rfl, by omega, by omega, ?_⟩⟩
    have R0 : RInv H (upd H r0 (.lst [])) h l r0 c [] := ⟨N0.same s0, But2.of s0, upd_same, fun v hv => nomatch hv⟩
    have R1 := R0.but nh nl N1 b1
    clear R0 s0
    refine for_range (lo := 0) (n := kn.toNat) (fun i σ H' => ∃ (pl : Int) (tb : Bool) (y7 y8 y9 y10 y11 y12 : Option V) (vs : List V), σ = [some (.ref h), some (.int c), some (.int r), some (.int hd), some (.int pl), some (.bl tb), some (.ref r0), y7, y8, y9, y10, y11, y12, none, none, none] ∧ RInv H H' h l r0 c vs ∧ 0 ≤ pl ∧ pl ≤ c ∧ vs.length = i)
      ⟨r, false, none, none, none, none, none, none, [], rfl, R1, p0, p1, rfl⟩ ?_ ?_
    · rintro i σ H2 hi ⟨pl, tb, y7, y8, y9, y10, y11, y12, vs, rfl, R2, q0, q1, vl⟩
      have vlt : vs.length < sizeLine := small_lt' (by omega)
      refine ⟨_, rfl, h, l, 6, rfl, R2.n, by decide, by decide, fun kd H3 _ _ N3 b3 => ?_⟩
      have R3 := R2.but nh nl N3 b3
      refine ⟨by show 2 ≤ sizeLine; decide, fun l2 hl2 => ⟨_, rfl, h, l, 2, rfl, R3.n.same (same_upd hl2), by decide, by decide, fun rr H5 g0 g1 N5 b5 => ?_⟩⟩
      have n2h : l2 ≠ h := let ⟨_, e⟩ := N3.h1; (ne_of_none e hl2).symm
      have n2l : l2 ≠ l := let ⟨_, e⟩ := N3.l1; (ne_of_none e hl2).symm
      obtain ⟨bb, hb⟩ : ∃ bb, atI [V.str "red", V.str "blue"] rr = some (V.str (roomS bb)) := by
        have : rr = ((0 : Nat) : Int) ∨ rr = ((1 : Nat) : Int) := by omega
        rcases this with z | z
        · exact ⟨true, at_of z rfl⟩
        · exact ⟨false, at_of z rfl⟩
      have R5 := (R3.same (same_upd (o := .lst [.str "red", .str "blue"]) hl2)).but nh nl N5 b5
      refine ⟨l2, _, _, _, rfl, rfl, SqL.of (b5 _ _ n2h n2l upd_same), hb, _, _, rfl, ?_⟩
      clear R3 R2 hl2 b5 b3 N3
      refine ⟨_, rfl, rfl, _, rfl, ite2 (fun _ => ?_) (fun _ => ⟨_, rfl, rfl, _, rfl, ite2 (fun _ => ?_) (fun _ => ?_)⟩)⟩
      · refine ⟨_, rfl, _, rfl, _, rfl, .inl ⟨rfl, _, SqL.of R5.e⟩, r0, vs, _, rfl, rfl, R5.e, vlt, ?_⟩
        exact ⟨pl, !tb, _, _, _, _, _, _, vs ++ [.str "turn"], rfl, R5.push hr0 nh nl (.inl rfl), q0, q1, by rw [List.length_append, vl]; rfl⟩
      · obtain ⟨pn, rfl⟩ := Int.eq_ofNat_of_zero_le q0
        obtain ⟨cn, rfl⟩ := Int.eq_ofNat_of_zero_le c0
        have lh : (roomS bb).length + Str.length " has " ≤ sizeLine := by
          have := (roomS_tl bb).2.1
          have : Str.length " has " = 5 := by decide +kernel
          rw [sizeLine_eq]
          omega
        refine ⟨_, rfl, rfl, _, rfl, rfl, _, rfl, ite2 (fun _ => ?_) (fun _ => ?_)⟩
        · refine ⟨_, rfl, _, rfl, .inl ⟨rfl, _, SqL.of R5.e⟩, _, rfl, _, _, rfl, rfl, lh, _, rfl, by show 2 ≤ sizeLine; decide, fun t ht => ⟨r0, vs, _, rfl, rfl, (same_upd ht) _ _ R5.e, vlt, ?_⟩⟩
          have R6 := (R5.same (same_upd (o := .lst [.str (roomS bb ++ " has "), .int (pn : Nat)]) ht)).push (v := .ref t) hr0 nh nl (.inr ⟨t, _, pn, rfl, upd_same, pre_has _ bb, by omega⟩)
          exact ⟨_, tb, _, _, _, _, _, _, vs ++ [.ref t], rfl, R6, q0, q1, by rw [List.length_append, vl]; rfl⟩
        · refine ⟨_, rfl, _, rfl, _, _, rfl, rfl, _, rfl, .inl ⟨rfl, _, SqL.of R5.e⟩, _, rfl, _, _, rfl, rfl, lh, _, rfl, by show 2 ≤ sizeLine; decide, fun t ht => ⟨r0, vs, _, rfl, rfl, (same_upd ht) _ _ R5.e, vlt, ?_⟩⟩
          have es : ((cn : Int) - (pn : Int)) = ((cn - pn : Nat) : Int) := by omega
          have R6 := (R5.same (same_upd (o := .lst [.str (roomS bb ++ " has "), .int ((cn : Int) - (pn : Int))]) ht)).push (v := .ref t) hr0 nh nl (.inr ⟨t, _, cn - pn, rfl, by rw [upd_same, es], pre_has _ bb, by omega⟩)
          exact ⟨_, tb, _, _, _, _, _, _, vs ++ [.ref t], rfl, R6, q0, q1, by rw [List.length_append, vl]; rfl⟩
      · refine ⟨_, rfl, _, rfl, _, _, rfl, rfl, h, l, c + 1, rfl, R5.n, by omega, by omega, fun nd H6 e0 e1 N6 b6 => ?_⟩
        have R6 := R5.but nh nl N6 b6
        refine ⟨_, rfl, _, rfl, _, rfl, _, rfl, _, rfl, by show 2 ≤ sizeLine; decide, fun q hq => ⟨c, pl, tb, .ref q, .meet bb nd, rfl, ⟨q, rfl, upd_same⟩, fun q2 H7 s7 e7 => ⟨q2, _, rfl, SqT.of e7, rfl, _, _, rfl, _, _, rfl, _, _, rfl, rfl, ?_⟩⟩⟩
        have R7 := R6.same ((same_upd (o := .tup [.str (roomS bb), .int nd]) hq).trans s7)
        obtain ⟨i0, i1, i2, i3⟩ := lstep_in (t := tb) (b := bb) q0 q1 e0 (show nd ≤ c by omega)
        generalize lstepF c pl tb (.meet bb nd) = Z at *
        obtain ⟨pl', tb', ct⟩ := Z
        dsimp only at *
        obtain ⟨kn', rfl⟩ := Int.eq_ofNat_of_zero_le i2
        obtain ⟨dn, rfl⟩ := Int.eq_ofNat_of_zero_le e0
        have l1 := (roomS_tl bb).2.1
        have l2' : (Str.ofString (toString ((dn : Nat) : Int))).length ≤ 2 := nS_len (n := dn) (by omega)
        have l3 : Str.length " " = 1 := by decide +kernel
        have l4 : Str.length " carried " = 9 := by decide +kernel
        have sz := sizeLine_eq
        refine ⟨_, rfl, .inl ⟨rfl, _, SqL.of R7.e⟩, _, rfl, _, _, rfl, rfl, by omega, _, rfl, _, rfl, log_smallN (by omega), _, _, rfl, rfl, by rw [app_len]; omega, _, _, rfl, rfl, by rw [app_len, app_len]; omega, _, rfl, by show 2 ≤ sizeLine; decide, fun t ht => ⟨r0, vs, _, rfl, rfl, (same_upd ht) _ _ R7.e, vlt, ?_⟩⟩
        have R8 := (R7.same (same_upd (o := .lst [.str (roomS bb ++ " " ++ nS dn ++ " carried "), .int (kn' : Nat)]) ht)).push (v := .ref t) hr0 nh nl (.inr ⟨t, _, kn', rfl, upd_same, pre_car bb (by omega) (by omega), by omega⟩)
        exact ⟨_, tb', _, _, _, _, _, _, vs ++ [.ref t], rfl, R8, i0, i1, by rw [List.length_append, vl]; rfl⟩
    · rintro σ H2 ⟨pl, tb, y7, y8, y9, y10, y11, y12, vs, rfl, R2, q0, q1, vl⟩
      obtain ⟨cn, rfl⟩ := Int.eq_ofNat_of_zero_le c0
      have cl2 : (Str.ofString (toString ((cn : Nat) : Int))).length ≤ 2 := nS_len (n := cn) (by omega)
      have l5 : Str.length "chairs " = 7 := by decide +kernel
      have sz := sizeLine_eq
      refine ⟨_, rfl, _, rfl, log_smallN (by omega), _, _, rfl, rfl, by omega, by show 1 ≤ sizeLine; decide, fun f hf => ?_⟩
      have hf0 := R2.b.none N0 hf R2.n
      have fh : f ≠ h := let ⟨_, e⟩ := R2.n.h1; (ne_of_none e hf).symm
      have fl : f ≠ l := let ⟨_, e⟩ := R2.n.l1; (ne_of_none e hf).symm
      have fr : f ≠ r0 := (ne_of_none R2.e hf).symm
      have R3 := R2.same (same_upd (o := .lst [.str ("chairs " ++ nS cn)]) hf)
      have e3 := upd_same (H := H2) (a := f) (o := .lst [.str ("chairs " ++ nS cn)])
      generalize upd H2 f (.lst [.str ("chairs " ++ nS cn)]) = H3 at *
      refine ⟨_, rfl, r0, rfl, ⟨_, SqL.of R3.e⟩, for_list (K := K) (a := r0) (xs := vs) (fun j σ H' => ∃ (y10 y14 y15 : Option V) (xs : List Str), σ = [some (.ref h), some (.int (cn : Int)), some (.int r), some (.int hd), some (.int pl), some (.bl tb), some (.ref r0), y7, y8, y9, y10, y11, y12, some (.ref f), y14, y15] ∧ RInv H H' h l r0 (cn : Int) vs ∧ H' f = some (.lst (((Str.ofString "chairs " ++ nS cn) :: xs).map V.str)) ∧ (∀ x ∈ xs, LineOk (cn : Int) x) ∧ xs.length = j)
        ⟨y10, none, none, [], rfl, R3, e3, fun x hx => (nomatch hx), rfl⟩ (fun j σ H' _ ⟨_, _, _, _, _, R, _⟩ => SqL.of R.e) ?_ ?_⟩
      · rintro j v σ H4 hj ⟨y10, y14, y15, xs, rfl, R4, e4, ok4, xl⟩
        have hv := R4.rv v (List.mem_of_getElem? hj)
        have hjl := (List.getElem?_eq_some_iff.mp hj).1
        have push : ∀ {H5 : Hp} {x : Str}, RInv H H5 h l r0 (cn : Int) vs → H5 f = some (.lst (((Str.ofString "chairs " ++ nS cn) :: xs).map V.str)) → LineOk (cn : Int) x → RInv H (upd H5 f (.lst (((Str.ofString "chairs " ++ nS cn) :: xs).map V.str ++ [.str x]))) h l r0 (cn : Int) vs ∧ upd H5 f (.lst (((Str.ofString "chairs " ++ nS cn) :: xs).map V.str ++ [.str x])) f = some (.lst (((Str.ofString "chairs " ++ nS cn) :: (xs ++ [x])).map V.str)) ∧ (∀ y ∈ xs ++ [x], LineOk (cn : Int) y) ∧ (xs ++ [x]).length = j + 1 := fun {H5 x} R5 e5 hx => by
          refine ⟨⟨next_upd R5.n fh fl, fun b o a1 a2 e => ?_, ?_, fun u hu => rowv_updS (R5.rv u hu) e5⟩, ?_, fun y hy => ?_, ?_⟩
          · rw [upd_ne (ne_of_none e hf0)]
            exact R5.b _ _ a1 a2 e
          · rw [upd_ne (Ne.symm fr)]
            exact R5.e
          · rw [upd_same, ← List.cons_append, List.map_append]
            rfl
          · rcases List.mem_append.mp hy with q | q
            · exact ok4 y q
            · rw [List.mem_singleton.mp q]
              exact hx
          · rw [List.length_append, xl]
            rfl
        have fl2 : (((Str.ofString "chairs " ++ nS cn) :: xs).map V.str).length < sizeLine := small_lt' (by rw [List.length_map, List.length_cons]; omega)
        rcases hv with rfl | ⟨a, s, n, rfl, g, hp, hn⟩
        · obtain ⟨z1, z2, z3, z4⟩ := push R4 e4 (line_turn _)
          exact ⟨_, rfl, .str "turn", .str "turn", .str _, .str _, by decide +kernel, by decide +kernel, _, rfl, ifT (by decide +kernel) ⟨_, rfl, .inl ⟨rfl, _, SqL.of e4⟩, _, rfl, f, _, _, rfl, rfl, e4, fl2, ⟨_, _, _, xs ++ [Str.ofString "turn"], rfl, z1, z2, z3, z4⟩⟩⟩
        · refine ⟨_, rfl, _, .str "turn", .lst (SqL.of g) (.cons (.str _) (.cons (.int _) .nil)), .str _, shaped_row hp.1, by decide +kernel, _, rfl, ifF rfl ⟨_, rfl, _, rfl, h, l, hd, rfl, R4.n, d0, by omega, fun wy H5 _ _ N5 b5 => ?_⟩⟩
          have R5 := R4.but nh nl N5 b5
          have e5 := b5 _ _ fh fl e4
          have ga : ∀ {H6 H7 : Hp}, NextAt H6 h l → But2 h l H6 H7 → H6 a = some (.lst [.str s, .int (n : Nat)]) → H7 a = some (.lst [.str s, .int (n : Nat)]) := fun {H6 H7} N b g => by
            rcases rowv_but2 (c := (cn : Int)) (.inr ⟨a, s, n, rfl, g, hp, hn⟩) N b with z | ⟨a', s', n', z1, z2, z3, z4⟩
            · cases z
            · injection z1 with z1
              subst z1
              obtain ⟨m, kk, ns, q1, q2, _, _⟩ := N
              refine b _ _ (ne_of g q1 fun z => ?_) (ne_of g q2 fun z => ?_) g
              · injection z with z
                injection z with z _
                cases z
              · injection z with z
                cases ns with
                | nil => cases z
                | cons x r =>
                  injection z with z _
                  cases z
          have g5 := ga R4.n b5 g
          refine ⟨fun σ H' => ∃ (wd : Str), σ = [some (.ref h), some (.int (cn : Int)), some (.int r), some (.int hd), some (.int pl), some (.bl tb), some (.ref r0), y7, y8, y9, some (.str wd), y11, y12, some (.ref f), some (.ref a), some (.int wy)] ∧ RInv H H' h l r0 (cn : Int) vs ∧ H' f = some (.lst (((Str.ofString "chairs " ++ nS cn) :: xs).map V.str)) ∧ H' a = some (.lst [.str s, .int (n : Nat)]) ∧ okS wd ∧ 32 ∉ tl wd ∧ 10 ∉ tl wd ∧ known wd = true ∧ wd.length ≤ 2, ?_, ?_⟩
          · refine ⟨_, rfl, rfl, _, rfl, ite2 (fun _ => ?_) (fun _ => ?_)⟩
            · exact ⟨"?", rfl, R5, e5, g5, okS_of (by decide +kernel), by decide +kernel, by decide +kernel, known_q, by decide +kernel⟩
            · have num : ∀ m : Nat, m ≤ 13 → okS (nS m) ∧ 32 ∉ tl (nS m) ∧ 10 ∉ tl (nS m) ∧ known (nS m) = true ∧ (nS m).length ≤ 2 := fun m hm => ⟨nS_ok m, nS_free (by omega), nS_free (by omega), known_num (by omega), nS_len (by omega)⟩
              refine ⟨_, rfl, a, _, _, _, rfl, rfl, SqL.of g5, at_of (j := 1) rfl rfl, _, rfl, rfl, _, rfl, ite2 (fun _ => ?_) (fun _ => ?_)⟩
              · refine ⟨_, rfl, h, l, 6, rfl, R5.n, by decide, by decide, fun r6 H6 _ _ N6 b6 => ⟨rfl, .inr ⟨_, rfl, _, _, rfl, rfl, ?_⟩⟩⟩
                have R6 := R5.but nh nl N6 b6
                have e6 := b6 _ _ fh fl e5
                have g6 := ga R5.n b6 g5
                by_cases c6 : decide (V.int r6 = V.int 0) = true
                · rw [if_pos c6]
                  exact ⟨_, rfl, log_smallN (n := n + 1) (by omega), nS (n + 1), rfl, R6, e6, g6, num (n + 1) (by omega)⟩
                · rw [if_neg c6]
                  exact ⟨_, rfl, log_smallN (n := n) (by omega), nS n, rfl, R6, e6, g6, num n (by omega)⟩
              · exact .inr ⟨_, rfl, _, _, rfl, rfl, _, rfl, log_smallN (n := n) (by omega), nS n, rfl, R5, e5, g5, num n (by omega)⟩
          rintro σ H6 ⟨wd, rfl, R6, e6, g6, w1, w2, w3, w4, w5⟩
          obtain ⟨z1, z2, z3, z4⟩ := push R6 e6 (line_num hp w1 w2 w3 w4 w5)
          have hs := hp.2.1
          exact ⟨_, rfl, .inl ⟨rfl, _, SqL.of e6⟩, _, rfl, a, _, _, _, rfl, rfl, SqL.of g6, at_of (j := 0) rfl rfl, _, rfl, _, _, rfl, rfl, by omega, f, _, _, rfl, rfl, e6, fl2, ⟨_, _, _, xs ++ [s ++ wd], rfl, z1, z2, z3, z4⟩⟩
      · rintro σ H4 ⟨y10, y14, y15, xs, rfl, R4, e4, ok4, xl⟩
        exact ⟨_, rfl, k f H4 xs R4.n R4.b hf0 e4 ok4 (by omega)⟩
end
end Cc

/-! The law of daybooks: the right numbers of rows. -/
namespace Cc
open PySem PySem.Spec PyProof.Rows L2 TL
def placeT (c r : Int) (t : Bool) : Int := if t then c - r else r
theorem lstepF_is (c r : Int) (t : Bool) (b : Bool) (n : Int) : lstepF c (placeT c r t) t (.meet b n) = (placeT c (stepF c (.meet b n) r).1 t, t, (stepF c (.meet b n) r).2) := by
  cases b <;> cases t <;> simp only [lstepF, placeT, stepF, ab, mx] <;> simp <;> (repeat split) <;> (try omega) <;> (try (constructor <;> omega))
/-- the entry of a line -/
abbrev lnE (x : Str) : Ent := entF (wordsB x)
def spRight : Sp := fun vs H Q _ => ∃ (R : Addr) (c s : Int) (l0 : Str) (xs : List Str), vs = [.ref R, .int c, .int s] ∧ H R = some (.lst ((l0 :: xs).map V.str)) ∧ (∀ x ∈ xs, LineOk c x) ∧ 0 ≤ c ∧ c ≤ 12 ∧ 0 ≤ s ∧ s ≤ c ∧ xs.length ≤ 7 ∧
  ∀ q f H', Same H H' → H f = none → H' q = some (.tup [.ref f, bdW (checkF c 1 (xs.map lnE) s)]) → H' f = some (.lst ((l0 :: fillsF (xs.map lnE) (rightsF c (xs.map lnE) s)).map V.str)) → Q (.ref q) H'
theorem check_more {c : Int} : ∀ {es : List Ent} {i k : Nat} {e : Ent} {r : Int}, es[i]? = some e → checkF c k (es.take (i + 1)) r = match checkF c k (es.take i) r with
    | some j => some j
    | none => if wrongE e (rightF c e (endF c (es.take i) r)) = true then some (k + i) else none
  | [], i, k, e, r, h => by simp at h
  | e' :: es, 0, k, e, r, h => by
    have h' : e' = e := Option.some.inj h
    subst h'
    show (if wrongE e' (rightF c e' r) then some k else checkF c (k + 1) (es.take 0) (nextF c e' r)) = _
    rfl
  | e' :: es, i + 1, k, e, r, h => by
    show (if wrongE e' (rightF c e' r) then some k else checkF c (k + 1) (es.take (i + 1)) (nextF c e' r)) = match (if wrongE e' (rightF c e' r) then some k else checkF c (k + 1) (es.take i) (nextF c e' r)) with | some j => some j | none => if wrongE e (rightF c e (endF c (es.take i) (nextF c e' r))) = true then some (k + (i + 1)) else none
    by_cases q : wrongE e' (rightF c e' r) = true
    · rw [if_pos q, if_pos q]
    · rw [if_neg q, if_neg q, check_more (es := es) (i := i) (k := k + 1) (e := e) (by simpa using h), show k + 1 + i = k + (i + 1) by omega] <;> rfl
theorem snoc_split {l : List Nat} (h : l ≠ []) : ∃ a c, l = a ++ [c] := ⟨l.dropLast, l.getLast h, (List.dropLast_concat_getLast h).symm⟩
theorem numL_val' : ∀ (n : Nat) (l : List Nat), l.length = n → natOk l = true → numL (valL l) = l
  | 0, l, hn, h => by
    have e : l = [] := List.eq_nil_of_length_eq_zero hn
    rw [e] at h
    cases h
  | n + 1, l, hn, h => by
    have ne : l ≠ [] := fun z => by rw [z] at hn; cases hn
    obtain ⟨a, c, rfl⟩ := snoc_split ne
    unfold natOk at h
    rw [Bool.and_eq_true] at h
    obtain ⟨h1, h3⟩ := h
    rw [Bool.and_eq_true] at h1
    have h2 := digs_mem h1.2
    have hc := h2 c (List.mem_append_right _ List.mem_cons_self)
    rw [val_snoc]
    cases a with
    | nil =>
      have e : valL ([] : List Nat) = 0 := rfl
      rw [e, Nat.zero_mul, Nat.zero_add, numL_lt (by omega)]
      show [48 + (c - 48)] = [c]
      rw [(show 48 + (c - 48) = c by omega)]
    | cons d r =>
      have hd := h2 d (by simp)
      have hd48 : d ≠ 48 := fun z => by
        subst z
        simp at h3
      have ok : natOk (d :: r) = true := by
        unfold natOk
        have g : digs (d :: r) = true := List.all_eq_true.mpr fun y hy => decide_eq_true (h2 y (List.mem_append_left _ hy))
        rw [g]
        simp [hd48]
      have ih := numL_val' n (d :: r) (by simpa using hn) ok
      have vp : 0 < valL (d :: r) := val_pos (by omega)
      rw [numL_step (by omega), show (valL (d :: r) * 10 + (c - 48)) / 10 = valL (d :: r) by omega, show (valL (d :: r) * 10 + (c - 48)) % 10 = c - 48 by omega, ih, show 48 + (c - 48) = c by omega]
theorem canon {w : Str} (h : natOk (tl w) = true) (n : Nat) : w = nS n ↔ valL (tl w) = n := by
  constructor
  · intro e
    rw [e, nS_tl]
    exact numL_val n
  · intro e
    refine ext_tl ?_
    rw [nS_tl, ← e, numL_val' _ _ rfl h]
theorem wrong_word {ws : List Str} {e : Ent} {n : Nat} (he : e.no = intL (tl (lastW ws))) (hk : known (lastW ws) = true) : (!(decide (lastW ws = "?") || decide (lastW ws = nS n))) = wrongE e (some (n : Int)) := by
  unfold wrongE
  rw [he]
  by_cases q : lastW ws = "?"
  · rw [q]
    have : intL (tl (Str.ofString "?")) = none := by decide +kernel
    rw [this, decide_eq_true rfl]
    rfl
  · unfold known at hk
    rw [decide_eq_false q, Bool.false_or] at hk
    have hn : natOk (tl (lastW ws)) = true := by
      unfold numOk at hk
      rw [Bool.and_eq_true] at hk
      exact hk.1
    rw [int_of_num hk, decide_eq_false q, Bool.false_or]
    dsimp only
    congr 1
    refine decide_eq_decide.mpr ?_
    rw [canon hn, Option.some.injEq]
    omega
/-- what a row is -/
inductive RowIs (c : Int) (ws : List Str) : Prop
  | turn (h : ws = [Str.ofString "turn"])
  | has (b : Bool) (h0 : at0 ws 0 = roomS b) (h1 : at0 ws 1 = "has") (hl : ws.length = 3) (ht : isTurnW ws = false) (hh : hasW ws = true) (kn : known (lastW ws) = true)
  | car (b : Bool) (n : Nat) (h0 : at0 ws 0 = roomS b) (h1 : numOk c (at0 ws 1) = true) (hn : (valL (tl (at0 ws 1))) = n) (hl : ws.length = 4) (ht : isTurnW ws = false) (hh : hasW ws = false) (kn : known (lastW ws) = true)
theorem row_is {c : Int} {ws : List Str} (h : rowOk c ws = true) : RowIs c ws := by
  unfold rowOk at h
  cases ht : isTurnW ws with
  | true => exact .turn (of_decide_eq_true ht)
  | false =>
    rw [ht, Bool.false_or, Bool.and_eq_true, Bool.and_eq_true] at h
    obtain ⟨⟨kn, hr⟩, hw⟩ := h
    have hb := (room_name hr).symm
    cases hh : hasW ws with
    | true =>
      have hh2 := hh
      unfold hasW at hh2
      rw [Bool.and_eq_true] at hh2
      exact .has _ hb (of_decide_eq_true hh2.2) (of_decide_eq_true hh2.1) ht hh kn
    | false =>
      rw [hh, Bool.false_or] at hw
      unfold carW at hw
      rw [Bool.and_eq_true, Bool.and_eq_true] at hw
      exact .car _ _ hb hw.2 rfl (of_decide_eq_true hw.1.1) ht hh kn
theorem intL_nn {w : Str} {v : Int} (kn : known w = true) (h : intL (tl w) = some v) : 0 ≤ v := by
  by_cases q : w = "?"
  · rw [q] at h
    have : intL (tl (Str.ofString "?")) = none := by decide +kernel
    rw [this] at h
    cases h
  · unfold known at kn
    rw [decide_eq_false q, Bool.false_or] at kn
    rw [int_of_num kn] at h
    injection h with h
    omega
theorem ent_turn {ws : List Str} (h : ws = [Str.ofString "turn"]) : entF ws = ⟨ws, some .turn, none⟩ := if_pos (decide_eq_true h)
theorem ent_has {ws : List Str} (ht : isTurnW ws = false) (hh : hasW ws = true) : entF ws = ⟨ws, none, intL (tl (lastW ws))⟩ := by
  unfold entF
  rw [if_neg (by rw [ht]; decide), if_pos hh]
theorem ent_car {c : Int} {ws : List Str} {b : Bool} {n : Nat} (ht : isTurnW ws = false) (hh : hasW ws = false) (h0 : at0 ws 0 = roomS b) (h1 : numOk c (at0 ws 1) = true) (hn : valL (tl (at0 ws 1)) = n) : entF ws = ⟨ws, some (.meet b n), intL (tl (lastW ws))⟩ := by
  unfold entF needV
  rw [if_neg (by rw [ht]; decide), if_neg (by rw [hh]; decide), int_of_num h1, hn, h0]
  have : decide (roomS b = "red") = b := by cases b <;> decide +kernel
  rw [this]
  rfl
theorem row_ent {c : Int} {ws : List Str} (h : rowOk c ws = true) : EntC c (entF ws) := by
  cases row_is h with
  | turn h =>
    rw [ent_turn h]
    exact ⟨fun s e => (by injection e with e; rw [← e]; trivial), fun _ => rfl, (fun v e => nomatch e), (fun e => nomatch e)⟩
  | has b h0 h1 hl ht hh kn =>
    rw [ent_has ht hh]
    exact ⟨(fun s e => nomatch e), (fun e => nomatch e), fun v e => intL_nn kn e, fun _ => (by show isRoom (at0 ws 0) = true; rw [h0]; exact (roomS_tl b).2.2.2.2)⟩
  | car b n h0 h1 hn hl ht hh kn =>
    rw [ent_car ht hh h0 h1 hn]
    refine ⟨fun s e => ?_, fun e => (by injection e with e; cases e), fun v e => intL_nn kn e, (fun e => nomatch e)⟩
    injection e with e
    rw [← e]
    unfold numOk at h1
    rw [Bool.and_eq_true] at h1
    have := of_decide_eq_true h1.2
    exact ⟨by omega, by omega⟩
theorem line_ent {c : Int} {x : Str} (h : LineOk c x) : EntC c (lnE x) := row_ent h.2.2.2
theorem not_turn {ws : List Str} (h : isRoom (at0 ws 0) = true) : decide (V.str (at0 ws 0) = V.str "turn") = false := by
  rw [str_ne]
  refine decide_eq_false fun z => ?_
  rw [z] at h
  exact absurd h (by decide +kernel)
theorem in_two {x a b : Str} : inV (.str x) [.str a, .str b] = (decide (x = a) || decide (x = b)) := by
  have e : ∀ a b : Str, eqV (.str a) (.str b) = decide (b = a) := fun a b => by
    show (a == b) = _
    rw [Bool.eq_iff_iff]
    exact ⟨fun h => decide_eq_true (eq_of_beq h).symm, fun h => by rw [of_decide_eq_true h]; exact beq_self_eq_true a⟩
  show (eqV (.str a) (.str x) || (eqV (.str b) (.str x) || false)) = _
  rw [e, e, Bool.or_false]
theorem set_last {ws : List Str} (h : ws ≠ []) (n : Nat) : ixN (ws.map V.str).length (-1) = some (ws.length - 1) ∧ (ws.map V.str).set (ws.length - 1) (.str (nS n)) = (ws.dropLast ++ [nS n]).map V.str := by
  have hl : 0 < ws.length := List.length_pos_iff.mpr h
  refine ⟨?_, ?_⟩
  · unfold ixN
    rw [List.length_map, if_neg (by decide), if_pos (by omega)]
    congr 1
    omega
  · have e : ws = ws.dropLast ++ [ws.getLast h] := (List.dropLast_concat_getLast h).symm
    have el : (ws.dropLast.map V.str).length = ws.length - 1 := by rw [List.length_map, List.length_dropLast]
    have e2 : ws.map V.str = ws.dropLast.map V.str ++ [V.str (ws.getLast h)] := by
      have := congrArg (List.map V.str) e
      rw [List.map_append] at this
      exact this
    rw [e2, ← el, List.set_append_right _ _ (Nat.le_refl _), Nat.sub_self, List.map_append]
    rfl
section
variable {P : Program} {w : World} {K : PySem.W.Frag} {mg : Str → Option Value} {base : Heap} {C TU pS gS : Addr} {mc : Value}
abbrev s__law_right : Stmt := top 51
abbrev n__law_right : List Str := ["_law_rows_here", "_law_chairs", "_law_start", "_law_place", "_law_turned", "_law_found", "_law_wrong", "_law_k", "_law_words", "_law_number"]
theorem sc__law_right : FnScope n__law_right ["_law_rows_here", "_law_chairs", "_law_start"] (defScope s__law_right) := ⟨rfl, rfl, rfl, by decide +kernel, rfl, by decide +kernel, by decide +kernel⟩
theorem ok__law_right {f f__law_step : Addr} {fd : FuncData} (F : Fun K "_law_right" "_law_right" s__law_right f fd) (B : Bt mg) (D__law_step : Dn P w K mg base 1 "_law_step" f__law_step spLStep) : FnOk P w K mg base CX0 2 f fd ["_law_rows_here", "_law_chairs", "_law_start"] spRight := by
  refine F.ok sc__law_right (fun vs H Q E h => ?_) (fun cdv A outer s H vs Q E hr h => ?_)
  · obtain ⟨R, c, s, l0, xs, rfl, _⟩ := h
    rfl
  · obtain ⟨R, c, s, l0, xs, rfl, hR, lok, c0, c1, r0, r1, xl, k⟩ := h
    refine ⟨_, pss_cons (ps_asg (pe_tup (pa_cons (pv 2) (pa_cons pe_bl (pa_cons (pe_slice sl_list (pv 0) po_none (po_some pe_int)) (pa_cons pe_non pa_nil))))) (pg_tup rfl (pgs_cons (pg_name (i := 3) sc__law_right.nd rfl (.inl rfl)) (pgs_cons (pg_name (i := 4) sc__law_right.nd rfl (.inl rfl)) (pgs_cons (pg_name (i := 5) sc__law_right.nd rfl (.inl rfl)) (pgs_cons (pg_name (i := 6) sc__law_right.nd rfl (.inl rfl)) pgs_nil))))))
      (pss_cons (ps_for PassesOwn.never rfl (pi_range2 rfl B.range (pa_cons pe_int (pa_cons (pe_callB call_len_seq (by rfl) B.len PySem.boot_len (pa_cons (pv 0) pa_nil)) pa_nil))) (pg_name (i := 7) sc__law_right.nd rfl (.inl rfl))
        (pss_cons (ps_set (i := 8) sc__law_right.nd rfl (.inl rfl) (pe_split (pe_ix ix_list (pv 0) (pv 7) (fun _ _ => rfl)) pe_str))
        (C8.pss_cut (ps_if (pt_cmpR op_eq (pe_ix ix_list (pv 8) pe_int (fun _ _ => rfl)) pe_str (nomark _))
          (pss_one (ps_set (i := 4) sc__law_right.nd rfl (.inl rfl) (pe_not (pv 4))))
          (pss_one (ps_if (pt_cmpR op_eq (pe_ix ix_list (pv 8) pe_int (fun _ _ => rfl)) pe_str (nomark _))
            (pss_one (ps_set (i := 9) sc__law_right.nd rfl (.inl rfl) (pe_ifExp (pt_cmpR op_ne (pe_cmpR op_eq (pe_ix ix_list (pv 8) pe_int (fun _ _ => rfl)) pe_str (nomark _)) (pv 4) (nomark _)) (pv 3) (pe_op op_sub (pv 1) (pv 3)))))
            (pss_one (ps_asg (pe_callR D__law_step.ok (hr.mono (by decide)) rfl D__law_step.at_ D__law_step.kp pass0 (pa_cons (pv 1) (pa_cons (pv 3) (pa_cons (pv 4) (pa_cons (pe_tup (pa_cons (pe_ix ix_list (pv 8) pe_int (fun _ _ => rfl)) (pa_cons (pe_callTy call_int_str (by rfl) B.int (by decide +kernel) (pa_cons (pe_ix ix_list (pv 8) pe_int (fun _ _ => rfl)) pa_nil)) pa_nil))) pa_nil))))) (pg_tup rfl (pgs_cons (pg_name (i := 3) sc__law_right.nd rfl (.inl rfl)) (pgs_cons (pg_name (i := 4) sc__law_right.nd rfl (.inl rfl)) (pgs_cons (pg_name (i := 9) sc__law_right.nd rfl (.inl rfl)) pgs_nil)))))))))
        (C8.pss_cut (ps_if (pt_cmpR op_ne (pe_ix ix_list (pv 8) pe_int (fun _ _ => rfl)) pe_str (nomark _))
          (C8.pss_cut (ps_if (PW.pt (pw_and (pt_cmpR op_notIn_seq (pe_ix ix_list (pv 8) (pe_un un_neg pe_int) (fun _ _ => rfl)) (pe_tup (pa_cons pe_str (pa_cons (pe_callTy call_str_int (by rfl) B.str (by decide +kernel) (pa_cons (pv 9) pa_nil)) pa_nil))) (by rfl)) (pw_and1 (pt_cmpR op_isN (pv 6) pe_non (nomark _)))))
            (pss_one (ps_set (i := 6) sc__law_right.nd rfl (.inl rfl) (pv 7))) pss_nil)
          (pss_one (ps_asg (pe_callTy call_str_int (by rfl) B.str (by decide +kernel) (pa_cons (pv 9) pa_nil)) (pg_sub (pv 8) (pe_un un_neg pe_int) set_list)))) pss_nil)
        (pss_one (ps_expr (pe_bm PySem.F.plainAttrs_list PySem.F.slot_list_append PySem.F.type_list_append mt_append (pv 5) (pa_cons (pe_join pe_str (pv 8)) pa_nil))))))))
      (pss_one (ps_ret (pe_tup (pa_cons (pv 5) (pa_cons (pv 6) pa_nil)))))), ?_⟩
    have hsp : Str.length " " = 1 := by decide +kernel
    have ec : ∀ e ∈ xs.map lnE, EntC c e := fun e he => by
      obtain ⟨x, hx, rfl⟩ := List.mem_map.mp he
      exact line_ent (lok x hx)
    have cf : cutV ((l0 :: xs).map V.str) none (some 1) = [.str l0] := by
      have : cutV ((l0 :: xs).map V.str) none (some ((1 : Nat) : Int)) = ((l0 :: xs).map V.str).take 1 := by
        unfold cutV
        rw [HT.sIx_none, HT.sIx_nat, List.drop_zero, Nat.min_eq_left (by rw [List.length_map, List.length_cons]; omega), Nat.sub_zero]
      exact this
    refine ⟨_, rfl, _, rfl, _, rfl, R, _, rfl, SqL.of hR, fun f hf => ?_⟩
    rw [cf]
    have s1 := same_upd (o := .lst [.str l0]) hf
    have e1 := upd_same (H := H) (a := f) (o := .lst [.str l0])
    generalize upd H f (.lst [.str l0]) = H1 at *
    refine ⟨by show 4 ≤ sizeLine; decide, fun t4 ht4 => ⟨t4, _, rfl, SqT.of upd_same, rfl, _, _, rfl, _, _, rfl, _, _, rfl, _, _, rfl, rfl, ?_⟩⟩
    have s2 := s1.trans (same_upd (o := .tup [.int s, .bl false, .ref f, .non]) ht4)
    have e2 := (same_upd (o := .tup [.int s, .bl false, .ref f, .non]) ht4) _ _ e1
    generalize upd H1 t4 (.tup [.int s, .bl false, .ref f, .non]) = H2 at *
    have rl : (((l0 :: xs).map V.str).length : Nat) = xs.length + 1 := by rw [List.length_map, List.length_cons]
    have el : (xs.map lnE).length = xs.length := List.length_map ..
    refine ⟨_, rfl, R, _, rfl, .inl (SqL.of (s2 _ _ hR)), 1, _, rfl, ⟨by decide, by decide, by omega, by omega⟩, for_range (lo := 1) (n := ((((l0 :: xs).map V.str).length : Nat) - 1 : Int).toNat) (fun i σ H' => ∃ (t : Bool) (y7 y8 y9 : Option V), σ = [some (.ref R), some (.int c), some (.int s), some (.int (placeT c (endF c ((xs.map lnE).take i) s) t)), some (.bl t), some (.ref f), some (bdW (checkF c 1 ((xs.map lnE).take i) s)), y7, y8, y9] ∧ Same H H' ∧ H' f = some (.lst ((l0 :: fillsF ((xs.map lnE).take i) (rightsF c ((xs.map lnE).take i) s)).map V.str)))
      ⟨false, none, none, none, rfl, s2, e2⟩ ?_ ?_⟩
    · rintro i σ H3 hi ⟨t, y7, y8, y9, rfl, s3, e3⟩
      have hix : i < xs.length := by omega
      obtain ⟨x, hx⟩ : ∃ x, xs[i]? = some x := ⟨_, List.getElem?_eq_getElem hix⟩
      have he : (xs.map lnE)[i]? = some (lnE x) := by rw [List.getElem?_map, hx]; rfl
      obtain ⟨ox, lx, nx, rx⟩ := lok x (List.mem_of_getElem? hx)
      obtain ⟨a0, a1⟩ := endF_in (es := (xs.map lnE).take i) (fun z hz => ec z (List.mem_of_mem_take hz)) r0 r1
      have em := endF_more (c := c) (r := s) he
      have cm := check_more (c := c) (k := 1) (r := s) he
      have fm : fillsF ((xs.map lnE).take (i + 1)) (rightsF c ((xs.map lnE).take (i + 1)) s) = fillsF ((xs.map lnE).take i) (rightsF c ((xs.map lnE).take i) s) ++ [Txt.join " " (fillW (lnE x).ws (rightF c (lnE x) (endF c ((xs.map lnE).take i) s)))] := by
        rw [rights_more he, take_more he]
        exact fills_snoc (by rw [rightsF_len])
      have fl : (fillsF ((xs.map lnE).take i) (rightsF c ((xs.map lnE).take i) s)).length ≤ 7 := by
        have := fills_len ((xs.map lnE).take i) (rightsF c ((xs.map lnE).take i) s)
        rw [List.length_take] at this
        omega
      rw [em, cm, fm]
      clear em cm fm
      generalize fillsF ((xs.map lnE).take i) (rightsF c ((xs.map lnE).take i) s) = fs at *
      generalize checkF c 1 ((xs.map lnE).take i) s = wk at *
      generalize endF c ((xs.map lnE).take i) s = r at *
      have hat : atI ((l0 :: xs).map V.str) (1 + (i : Nat)) = some (.str x) := at_of (j := 1 + i) (by omega) (by rw [Nat.add_comm]; show (xs.map V.str)[i]? = _; rw [List.getElem?_map, hx]; rfl)
      refine ⟨_, rfl, _, rfl, R, _, _, _, rfl, rfl, SqL.of (s3 _ _ hR), hat, ⟨x, rfl⟩, x, _, rfl, rfl, by decide +kernel, Nat.le_trans (Nat.add_le_add_right lx 2) (by decide), fun wv hw => ?_⟩
      obtain ⟨wt, wne⟩ := words_tot x
      have w0 : 0 < (wordsB x).length := List.length_pos_iff.mpr wne
      have s4 := s3.trans (same_upd (o := .lst ((wordsB x).map V.str)) hw)
      have e4 := (same_upd (o := .lst ((wordsB x).map V.str)) hw) _ _ e3
      have g4 := upd_same (H := H3) (a := wv) (o := .lst ((wordsB x).map V.str))
      have nwf : wv ≠ f := (ne_of_none e3 hw).symm
      have hw0 : H wv = none := sn_none s3 hw
      generalize upd H3 wv (.lst ((wordsB x).map V.str)) = H4 at *
      have hri := row_is rx
      have hws : (lnE x).ws = wordsB x := by
        cases hri with
        | turn h => unfold lnE; rw [ent_turn h]
        | has b h0 h1 hl ht hh kn => unfold lnE; rw [ent_has ht hh]
        | car b n h0 h1 hn hl ht hh kn => unfold lnE; rw [ent_car ht hh h0 h1 hn]
      rw [hws]
      have wtl : tot (wordsB x) ≤ 21 := by omega
      clear hw
      -- the row's number
      refine ⟨fun σ H' => ∃ (t' : Bool) (y9 : Option V), σ = [some (.ref R), some (.int c), some (.int s), some (.int (placeT c (nextF c (lnE x) r) t')), some (.bl t'), some (.ref f), some (bdW wk), some (.int (1 + (i : Nat))), some (.ref wv), y9] ∧ Same H4 H' ∧ (∀ n, rightF c (lnE x) r = some n → y9 = some (.int n)) ∧ (rightF c (lnE x) r = none ↔ at0 (wordsB x) 0 = "turn"), ?_, ?_⟩
      · refine ⟨_, rfl, wv, _, _, _, rfl, rfl, SqL.of g4, at0_at (i := 0) w0, rfl, _, rfl, ?_⟩
        cases hri with
        | turn h =>
          have hE : lnE x = ⟨wordsB x, some .turn, none⟩ := ent_turn h
          have h0 : at0 (wordsB x) 0 = "turn" := by rw [h]; rfl
          rw [hE]
          refine ifT (by rw [str_ne]; exact decide_eq_true h0) ⟨_, rfl, _, rfl, !t, y9, ?_, Same.refl H4, (fun n z => nomatch z), ⟨fun _ => h0, fun _ => rfl⟩⟩
          have : placeT c (nextF c ⟨wordsB x, some .turn, none⟩ r) (!t) = placeT c r t := by
            show placeT c (c - r) (!t) = placeT c r t
            unfold placeT
            cases t
            · show c - (c - r) = r
              omega
            · rfl
          rw [this]
          rfl
        | has b h0 h1 hl ht hh kn =>
          have hE : lnE x = ⟨wordsB x, none, intL (tl (lastW (wordsB x)))⟩ := ent_has ht hh
          have nt : decide (V.str (at0 (wordsB x) 0) = V.str "turn") = false := not_turn (by rw [h0]; exact (roomS_tl b).2.2.2.2)
          rw [hE]
          have hr : rightF c ⟨wordsB x, none, intL (tl (lastW (wordsB x)))⟩ r = some (if b = true then r else c - r) := by
            show some (if at0 (wordsB x) 0 = "red" then r else c - r) = _
            rw [h0]
            cases b <;> rfl
          have hne : (rightF c ⟨wordsB x, none, intL (tl (lastW (wordsB x)))⟩ r = none ↔ at0 (wordsB x) 0 = "turn") := by
            rw [hr]
            refine ⟨(fun z => nomatch z), fun z => ?_⟩
            rw [z] at nt
            exact absurd nt (by decide +kernel)
          refine ifF nt ⟨_, rfl, wv, _, _, _, rfl, rfl, SqL.of g4, at0_at (i := 1) (by omega), rfl, _, rfl, ifT (by rw [str_ne]; exact decide_eq_true h1) ?_⟩
          refine ⟨_, rfl, wv, _, _, _, rfl, rfl, SqL.of g4, at0_at (i := 0) w0, rfl, _, rfl, rfl, _, rfl, ?_⟩
          have e : (!decide (V.bl (decide (V.str (at0 (wordsB x) 0) = V.str "red")) = V.bl t)) = (b != t) := by
            rw [h0, room_eq, bl_eq]
            rfl
          cases hb : (b != t) with
          | true =>
            refine ifT (e.trans hb) ⟨_, rfl, t, _, rfl, Same.refl H4, fun n z => ?_, hne⟩
            rw [hr] at z
            injection z with z
            rw [← z]
            unfold placeT
            cases b <;> cases t <;> first | rfl | cases hb
          | false =>
            refine ifF (e.trans hb) ⟨_, rfl, _, rfl, _, _, rfl, rfl, t, _, rfl, Same.refl H4, fun n z => ?_, hne⟩
            rw [hr] at z
            injection z with z
            rw [← z]
            unfold placeT
            cases b <;> cases t <;> first | rfl | (show some (V.int (c - (c - r))) = some (V.int r); rw [show c - (c - r) = r by omega]; done) | cases hb
        | car b n h0 h1 hn hl ht hh kn =>
          have hE : lnE x = ⟨wordsB x, some (.meet b n), intL (tl (lastW (wordsB x)))⟩ := ent_car ht hh h0 h1 hn
          have nt : decide (V.str (at0 (wordsB x) 0) = V.str "turn") = false := not_turn (by rw [h0]; exact (roomS_tl b).2.2.2.2)
          have l1 : (at0 (wordsB x) 1).length ≤ 600 := by
            have := tot_mem (at0_mem (ws := wordsB x) (i := 1) (by omega))
            omega
          rw [hE]
          have nh : ¬ at0 (wordsB x) 1 = "has" := fun z => by
            rw [z] at h1
            unfold numOk at h1
            rw [show natOk (tl (Str.ofString "has")) = false by decide +kernel, Bool.false_and] at h1
            cases h1
          refine ifF nt ⟨_, rfl, wv, _, _, _, rfl, rfl, SqL.of g4, at0_at (i := 1) (by omega), rfl, _, rfl, ifF (by rw [str_ne]; exact decide_eq_false nh) ?_⟩
          refine ⟨_, rfl, _, rfl, _, rfl, _, rfl, wv, _, _, _, rfl, rfl, SqL.of g4, at0_at (i := 0) w0, _, rfl, wv, _, _, _, rfl, rfl, SqL.of g4, at0_at (i := 1) (by omega), at0 (wordsB x) 1, _, rfl, numOk_int h1 l1, Nat.le_trans l1 (by decide), by show 2 ≤ sizeLine; decide, fun q hq => ?_⟩
          refine ⟨c, _, t, .ref q, .meet b n, rfl, ⟨q, rfl, by rw [upd_same, h0, hn]; rfl⟩, fun q2 H7 s7 e7 => ?_⟩
          rw [lstepF_is] at e7
          refine ⟨q2, _, rfl, SqT.of e7, rfl, _, _, rfl, _, _, rfl, _, _, rfl, rfl, t, _, rfl, (same_upd hq).trans s7, fun m z => ?_, (fun z => nomatch z), fun z => ?_⟩
          · injection z with z
            rw [← z] <;> rfl
          · rw [z] at nt
            exact absurd nt (by decide +kernel)
      rintro σ H5 ⟨t', y9', rfl, s5, hy, ht0⟩
      have g5 := s5 _ _ g4
      have e5 := s5 _ _ e4
      have s05 := s4.trans s5
      have kn5 : at0 (wordsB x) 0 ≠ "turn" → known (lastW (wordsB x)) = true ∧ (lnE x).no = intL (tl (lastW (wordsB x))) := fun z => by
        cases hri with
        | turn h => exact absurd (by rw [h]; rfl) z
        | has b h0 h1 hl ht hh kn => exact ⟨kn, by unfold lnE; rw [ent_has ht hh]⟩
        | car b n h0 h1 hn hl ht hh kn => exact ⟨kn, by unfold lnE; rw [ent_car ht hh h0 h1 hn]⟩
      have noT : at0 (wordsB x) 0 = "turn" → (lnE x).no = none := fun z => by
        cases hri with
        | turn h => unfold lnE; rw [ent_turn h]
        | has b h0 h1 hl ht hh kn => exact absurd (h0.symm.trans z) (by cases b <;> decide +kernel)
        | car b n h0 h1 hn hl ht hh kn => exact absurd (h0.symm.trans z) (by cases b <;> decide +kernel)
      have rin : ∀ n, rightF c (lnE x) r = some n → 0 ≤ n ∧ n ≤ c := fun n hn => right_in (line_ent ⟨ox, lx, nx, rx⟩) a0 a1 hn
      generalize rightF c (lnE x) r = o at *
      refine ⟨fun σ H' => ∃ (y9 : Option V), σ = [some (.ref R), some (.int c), some (.int s), some (.int (placeT c (nextF c (lnE x) r) t')), some (.bl t'), some (.ref f), some (bdW (match wk with | some j => some j | none => if wrongE (lnE x) o = true then some (1 + i) else none)), some (.int (1 + (i : Nat))), some (.ref wv), y9] ∧ But wv H5 H' ∧ H' wv = some (.lst ((fillW (wordsB x) o).map V.str)), ?_, ?_⟩
      · refine ⟨_, rfl, wv, _, _, _, rfl, rfl, SqL.of g5, at0_at (i := 0) w0, rfl, _, rfl, ?_⟩
        cases o with
        | none =>
          have h0 := ht0.mp rfl
          have w : wrongE (lnE x) none = false := by
            unfold wrongE
            rw [noT h0]
          rw [w]
          refine ifF (by rw [str_ne, decide_eq_true h0]; rfl) ⟨y9', ?_, But.refl _ _, g5⟩
          cases wk <;> rfl
        | some n =>
          have h0 : at0 (wordsB x) 0 ≠ "turn" := fun z => nomatch ht0.mpr z
          obtain ⟨n0, n1⟩ := rin n rfl
          obtain ⟨m, rfl⟩ := Int.eq_ofNat_of_zero_le n0
          rw [hy _ rfl]
          obtain ⟨kn, hno⟩ := kn5 h0
          refine ifT (by rw [str_ne, decide_eq_false h0]; rfl) ?_
          refine ⟨fun σ H' => σ = [some (.ref R), some (.int c), some (.int s), some (.int (placeT c (nextF c (lnE x) r) t')), some (.bl t'), some (.ref f), some (bdW (match wk with | some j => some j | none => if wrongE (lnE x) (some (m : Int)) = true then some (1 + i) else none)), some (.int (1 + (i : Nat))), some (.ref wv), some (.int (m : Int))] ∧ Same H5 H', ?_, ?_⟩
          · refine ⟨_, rfl, _, rfl, wv, _, _, _, rfl, rfl, SqL.of g5, last_at wne, _, rfl, _, rfl, log_smallN (n := m) (by omega), by show 2 ≤ sizeLine; decide, fun q hq => ⟨q, _, rfl, .inr (SqT.of upd_same), rfl, rfl, _, rfl, ?_⟩⟩
            have ww := wrong_word (ws := wordsB x) (e := lnE x) (n := m) hno kn
            have ei : inV (.str (lastW (wordsB x))) [.str "?", .str (nS m)] = (decide (lastW (wordsB x) = "?") || decide (lastW (wordsB x) = nS m)) := in_two
            have sq := same_upd (o := .tup [.str "?", .str (nS m)]) hq
            cases hw : wrongE (lnE x) (some (m : Int)) with
            | false =>
              refine ifF (by rw [ei]; exact ww.trans hw) (iteF ⟨?_, sq⟩)
              cases wk <;> rfl
            | true =>
              refine ifT (by rw [ei]; exact ww.trans hw) ⟨_, rfl, rfl, _, rfl, ?_⟩
              cases wk with
              | none => exact ifT rfl ⟨_, rfl, rfl, sq⟩
              | some j => exact ifF rfl ⟨rfl, sq⟩
          rintro σ H6 ⟨rfl, s6⟩
          obtain ⟨q1, q2⟩ := set_last wne m
          refine ⟨_, rfl, _, rfl, log_smallN (n := m) (by omega), _, rfl, _, rfl, wv, _, _, _, rfl, rfl, s6 _ _ g5, q1, _, rfl, fun b o nb z => ?_, ?_⟩
          · rw [upd_ne nb]
            exact s6 _ _ z
          · rw [upd_same, q2]
            rfl
      rintro σ H6 ⟨y9, rfl, b6, g6⟩
      have e6 := b6 _ _ (Ne.symm nwf) e5
      have ftl : tot (fillW (wordsB x) o) ≤ 40 := by
        cases o with
        | none => exact Nat.le_trans wtl (by decide)
        | some n =>
          obtain ⟨b0, b1⟩ := rin n rfl
          obtain ⟨m, rfl⟩ := Int.eq_ofNat_of_zero_le b0
          show tot ((wordsB x).dropLast ++ [nS m]) ≤ 40
          have := nS_len (n := m) (by omega)
          rw [tot_append, tot_cons]
          have : tot (wordsB x).dropLast ≤ tot (wordsB x) := by
            rw [List.dropLast_eq_take]
            have := tot_take_le (wordsB x) ((wordsB x).length - 1)
            omega
          have : tot ([] : List Str) = 0 := rfl
          omega
      refine ⟨_, rfl, .inl ⟨rfl, _, SqL.of e6⟩, ⟨_, rfl⟩, _, rfl, _, wv, _, rfl, rfl, .inl (SqL.of g6), join_sum hsp (by omega), f, _, _, rfl, rfl, e6, ?_, ?_⟩
      · rw [List.length_map, List.length_cons]
        exact small_lt' (by omega)
      · refine ⟨t', _, _, y9, rfl, fun b ov z => ?_, ?_⟩
        · rw [upd_ne (ne_of_none z hf)]
          exact b6 _ _ (ne_of_none z hw0) (s05 _ _ z)
        · rw [upd_same, ← List.cons_append, List.map_append]
          rfl
    · rintro σ H3 ⟨t, y7, y8, y9, rfl, s3, e3⟩
      have en : ((((l0 :: xs).map V.str).length : Nat) - 1 : Int).toNat = (xs.map lnE).length := by omega
      rw [en, List.take_length] at e3
      rw [en, List.take_length]
      exact ⟨_, rfl, _, rfl, by show 2 ≤ sizeLine; decide, fun q hq => k q f _ (s3.trans (same_upd hq)) hf upd_same ((same_upd hq) _ _ e3)⟩
end
end Cc

/-! Steps of which some are the module's own turn. -/
namespace Cc
open PySem PySem.Spec PyProof.Rows L2
/-- a step, wherever its tuple stands -/
def StepV (K : PySem.W.Frag) (H : Hp) (v : V) (s : Stp) : Prop := ∃ t, v = .ref t ∧ ∀ H', (∀ t xs, H t = some (.tup xs) → H' t = some (.tup xs)) → SqT K H' t (stpV s)
def StepsV (K : PySem.W.Frag) (H : Hp) (vs : List V) (ss : List Stp) : Prop := Paired (StepV K H) vs ss
theorem StepV.of {K : PySem.W.Frag} {H : Hp} {v : V} {s : Stp} (h : StepAt H v s) : StepV K H v s :=
  let ⟨t, e, g⟩ := h
  ⟨t, e, fun H' k => SqT.of (k _ _ g)⟩
theorem StepV.mono {K : PySem.W.Frag} {H H1 : Hp} {v : V} {s : Stp} (h : StepV K H v s) (m : ∀ t xs, H t = some (.tup xs) → H1 t = some (.tup xs)) : StepV K H1 v s :=
  let ⟨t, e, g⟩ := h
  ⟨t, e, fun H' k => g H' fun t xs z => k t xs (m t xs z)⟩
theorem StepsV.of {K : PySem.W.Frag} {H : Hp} : ∀ {vs : List V} {ss : List Stp}, Steps H vs ss → StepsV K H vs ss
  | _, _, .nil => .nil
  | _, _, .cons a r => .cons (.of a) (StepsV.of r)
theorem StepsV.mono {K : PySem.W.Frag} {H H1 : Hp} : ∀ {vs : List V} {ss : List Stp}, StepsV K H vs ss → (∀ t xs, H t = some (.tup xs) → H1 t = some (.tup xs)) → StepsV K H1 vs ss
  | _, _, .nil, _ => .nil
  | _, _, .cons a r, m => .cons (a.mono m) (StepsV.mono r m)
theorem StepsV.append {K : PySem.W.Frag} {H : Hp} : ∀ {vs ws : List V} {ss us : List Stp}, StepsV K H vs ss → StepsV K H ws us → StepsV K H (vs ++ ws) (ss ++ us)
  | _, _, _, _, .nil, h => h
  | _, _, _, _, .cons a r, h => .cons a (StepsV.append r h)
theorem StepsV.length {K : PySem.W.Frag} {H : Hp} {vs : List V} {ss : List Stp} (h : StepsV K H vs ss) : vs.length = ss.length := Paired.length h
theorem StepsV.get {K : PySem.W.Frag} {H : Hp} : ∀ {vs : List V} {ss : List Stp} {i : Nat} {v : V}, StepsV K H vs ss → vs[i]? = some v → ∃ s, ss[i]? = some s ∧ StepV K H v s
  | _, _, 0, _, .cons a r, e => by
    cases e
    exact ⟨_, rfl, a⟩
  | _, _, i + 1, v, .cons a r, e => StepsV.get (i := i) r e
theorem StepsV.same {K : PySem.W.Frag} {H H1 : Hp} {vs : List V} {ss : List Stp} (h : StepsV K H vs ss) (s : Same H H1) : StepsV K H1 vs ss := h.mono fun t xs e => s _ _ e
theorem same_none {H H1 : Hp} {p : Addr} (s : Same H H1) (h : H1 p = none) : H p = none := by
  cases e : H p with
  | none => rfl
  | some o =>
    rw [s _ _ e] at h
    cases h
theorem sqT_ty {K : PySem.W.Frag} {H : Hp} {t : Addr} {xs : List V} (h : SqT K H t xs) : TyX K H (.ref t) (.type "tuple") := by
  rcases h with (h | ⟨o, h⟩) | ⟨o, its, n, h, c, _⟩
  · exact .base (.tup h)
  · exact .fTuple h
  · exact .kTuple h c
def spIsStepV (K : PySem.W.Frag) : Sp := fun vs H Q _ => ∃ (v : V) (s : Stp), vs = [v] ∧ StepV K H v s ∧ s.ok 1000000000000000000 ∧ ∀ H', Same H H' → Q (.bl true) H'
def spInitSV (K : PySem.W.Frag) (C : Addr) : Sp := fun vs H Q _ => ∃ (x tp dx : Addr) (ws : List V) (ss : List Stp), vs = [.ref x, .ref tp] ∧ H x = some (.ins C dx []) ∧ TupP H tp ws ∧ StepsV K H ws ss ∧ ss.length ≤ 60 ∧ (∀ s ∈ ss, s.ok 1000000000000000000) ∧
  ∀ H', But x H H' → H' x = some (.ins C dx [("step_tuple", .ref tp)]) → Q .non H'
def spInitV (K : PySem.W.Frag) (C : Addr) : Sp := fun vs H Q _ => ∃ (x dx : Addr) (ws : List V) (ss : List Stp), vs = .ref x :: ws ∧ H x = some (.ins C dx []) ∧ StepsV K H ws ss ∧ ss.length ≤ 60 ∧ (∀ s ∈ ss, s.ok 1000000000000000000) ∧
  ∀ H' tp, But x H H' → H' x = some (.ins C dx [("step_tuple", .ref tp)]) → TupP H' tp ws → Q .non H'
/-- a plan, some of whose turns may be the module's -/
def PlanV (K : PySem.W.Frag) (C : Addr) (H : Hp) (p : Addr) (ss : List Stp) : Prop := ∃ dx tp ws, H p = some (.ins C dx [("step_tuple", .ref tp)]) ∧ TupP H tp ws ∧ StepsV K H ws ss
theorem PlanV.same {K : PySem.W.Frag} {C : Addr} {H H1 : Hp} {p : Addr} {ss : List Stp} (h : PlanV K C H p ss) (s : Same H H1) : PlanV K C H1 p ss :=
  let ⟨dx, tp, ws, a, b, c⟩ := h
  ⟨dx, tp, ws, s _ _ a, b.same s, c.same s⟩
section
variable {P : Program} {w : World} {K : PySem.W.Frag} {mg : Str → Option Value} {base : Heap} {C TU pS gS : Addr} {mc : Value}
theorem turn_stepV (T : Txt K mg C TU pS gS mc) (H : Hp) : StepV K H (.ref TU) .turn := ⟨TU, rfl, fun H' _ => T.tT H'⟩
theorem ok_isstepV {f fN : Addr} {fd : FuncData} (F : Fun K "is_step" "is_step" sIsStep f fd) (T : Txt K mg C TU pS gS mc) (N : Dn P w K mg base 1 "is_number" fN spIsNum) : FnOk P w K mg base CX0 2 f fd ["step"] (spIsStepV K) := by
  refine F.ok scIsStep (fun vs H Q E h => ?_) (fun cdv A outer s H vs Q E hr h => ?_)
  · obtain ⟨v, s, rfl, _⟩ := h
    rfl
  · obtain ⟨v, st, rfl, ⟨t, rfl, ht'⟩, ok, k⟩ := h
    have ht := ht' H fun _ _ e => e
    obtain ⟨u, hu⟩ := T.cc
    refine ⟨_, pss_cons (ps_if (pt_not (pt_val (pe_callB call_isi (by rfl) T.b.isinstance (by decide +kernel) (pa_cons (pv 0) (pa_cons (pe_bltn (v := .ty "tuple") (by rfl) T.b.tuple (by decide +kernel) rfl) pa_nil))))) (pss_one (ps_ret pe_bl)) pss_nil)
      (pss_cons (ps_if (pt_cmpR op_eq (pe_callB call_len (by rfl) T.b.len PySem.boot_len (pa_cons (pv 0) pa_nil)) pe_int (nomark _))
        (pss_one (ps_ret (pe_and (pe_cmpR op_in_seq (pe_ix ix_tup (pv 0) pe_int (fun _ _ => rfl)) (pe_tup (pa_cons pe_str (pa_cons pe_str pa_nil))) (by rfl))
          (pe_one (pe_callR N.ok hr rfl N.at_ N.kp pass0 (pa_cons (pe_ix ix_tup (pv 0) pe_int (fun _ _ => rfl)) (pa_cons pe_int (pa_cons (ClX.pe_cval (pe_glob (v := .ref C) rfl T.gP rfl)) pa_nil)))))))) pss_nil)
      (pss_one (ps_ret (pe_cmpR (op_eqD hr.units) (pv 0) (pe_glob (v := .ref TU) rfl T.gT rfl) (nomark _))))), ?_⟩
    refine ⟨_, rfl, _, _, _, _, true, rfl, .ty "tuple", sqT_ty ht, kit_ty (by decide +kernel), true, rfl, ?_⟩
    refine iteF ?_
    refine ⟨_, rfl, _, _, rfl, .inr ⟨_, ht, rfl⟩, rfl, ?_⟩
    cases st with
    | turn =>
      refine ⟨_, rfl, iteF ?_⟩
      refine ⟨_, rfl, .tuple [.str "turn"], .tuple [.str "turn"], .tup ht (.cons (.str _) .nil), .tup (T.tT _) (.cons (.str _) .nil), by decide +kernel, by decide +kernel, ?_⟩
      have e : PyData.eqv (.tuple [.str "turn"]) (.tuple [.str "turn"]) = true := by decide +kernel
      rw [e]
      exact k H (Same.refl H)
    | meet bb n =>
      refine ⟨_, rfl, iteT ?_⟩
      refine ⟨_, rfl, t, _, _, _, rfl, rfl, ht, at_of (j := 0) rfl rfl, by show 2 ≤ sizeLine; decide, fun p hp => ?_⟩
      have s1 : Same H (upd H p (.tup [.str "red", .str "blue"])) := same_upd hp
      refine ⟨p, _, rfl, .inr (SqT.of upd_same), rfl, by decide, _, rfl, ?_⟩
      have e : inV (.str (roomS bb)) [.str "red", .str "blue"] = true := by cases bb <;> decide +kernel
      rw [e]
      refine iteT ⟨_, rfl, t, _, _, _, rfl, rfl, ht' _ fun _ _ z => s1 _ _ z, at_of (j := 1) rfl rfl, C, mc, _, u, rfl, T.rd, hu, n, 0, _, rfl, ?_⟩
      rw [decide_eq_true (show (0 : Int) ≤ n ∧ n ≤ 1000000000000000000 from ok)]
      exact k _ s1
theorem ok_initV {f fS : Addr} {fd : FuncData} (F : Fun K "__init__" "Plan.__init__" sInit f fd) (T : Txt K mg C TU pS gS mc) (N : Dn P w K mg base 2 "is_step" fS (spIsStepV K)) : FnR P w K mg base CX0 3 f (spInitV K C) := by
  obtain ⟨z1, z2, z3, z4, z5, z6, cdv, z7, z8, rfl, lk, hcd⟩ := F.ex
  refine (fn_starZ (ps := ["self"]) (pv := "steps") (sp := spInitSV K C) (k := 2) lk hcd scInit StX.cxUp_none (StX.bind_star1 (B := fun us => bindArgs _ ⟨us, []⟩) (fun _ => rfl) (fun _ _ _ => rfl)) fun A outer s H vs Q E hr h => ?_).imp fun vs H Q E h => ?_
  · obtain ⟨x, tp, dx, ws, ss, rfl, e1, e2, e3, hl, hs, k⟩ := h
    obtain ⟨u, hu⟩ := T.cs
    suffices h : ∃ t, PSs (cxOf CX0 P w K mg base ["self", "steps", "index", "step"] "Plan.__init__" (defScope sInit) f cdv A outer s H E).nox (defBody sInit) t ∧ t { nx := fun _ H' => Q .non H', rt := Q } (start ["self", "steps", "index", "step"] [.ref x, .ref tp]) H by
      obtain ⟨t, h1, h2⟩ := h
      exact ⟨t, h1.nox, h2⟩
    refine ⟨_, pss_cons (ps_for PassesOwn.never rfl (pi_enumT (by rfl) T.b.enumerate (pa_cons (pv 1) pa_nil))
        (pg_tup rfl (pgs_cons (pg_name (i := 2) scInit.nd rfl (.inl rfl)) (pgs_cons (pg_name (i := 3) scInit.nd rfl (.inl rfl)) pgs_nil)))
        (pss_one (ps_if (PW.pt (pw_or (pt_cmpR op_eq (pv 2) (ClX.pe_cval (pe_glob (v := .ref C) rfl T.gP rfl)) (nomark _))
          (pw_or1 (pt_not (pt_val (pe_callR N.ok hr rfl N.at_ N.kp pass0 (pa_cons (pv 3) pa_nil))))))) (pss_one ps_never) pss_nil)))
      (pss_one (ps_fld (pv 0) (pv 1) rfl)), ?_⟩
    refine ⟨_, rfl, tp, ws, rfl, e2.sq, ?_⟩
    refine for_it (walk_enumT (xs := ws)) (fun i σ H' => ∃ a b, σ = [some (.ref x), some (.ref tp), a, b] ∧ Same H H') ⟨none, none, rfl, Same.refl H⟩ (fun i σ H' _ ⟨_, _, _, s1⟩ => (e2.same s1).sq) ?_ ?_
    · rintro i v σ H1 H2 hi ⟨a, b, rfl, s1⟩ ⟨q, y1, y2, rfl, n1, rfl, z1, z2⟩
      obtain ⟨st, hst, hv⟩ := e3.get z2
      have okst := hs st (List.mem_of_getElem? hst)
      have s2 : Same H (upd H1 q (.tup [y1, y2])) := s1.trans (same_upd n1)
      cases z1
      refine ⟨q, _, rfl, SqT.of upd_same, rfl, _, _, rfl, _, _, rfl, rfl, ?_⟩
      have hi' : i < 60 := by
        have := e3.length
        omega
      refine ⟨_, rfl, C, mc, _, u, rfl, T.rd, hu, rfl, _, rfl, ?_⟩
      rw [decide_eq_false (show ¬ V.int (i : Int) = V.int 60 from fun z => by injection z with z; omega)]
      refine iteF ?_
      refine ⟨_, rfl, _, st, rfl, hv.mono fun _ _ z => s2 _ _ z, okst, fun H3 s3 => ⟨_, rfl, ?_⟩⟩
      exact iteF ⟨_, _, rfl, s2.trans s3⟩
    · rintro σ H' ⟨a, b, rfl, s1⟩
      refine ⟨_, rfl, _, rfl, x, C, dx, _, rfl, s1 _ _ e1, T.cl, T.nS, (by show 0 < 1000; decide), ?_⟩
      exact k _ (fun b o n e => by rw [upd_ne n]; exact s1 _ _ e) upd_same
  · obtain ⟨x, dx, ws, ss, rfl, e1, e3, hl, hs, k⟩ := h
    refine ⟨[.ref x], ws, rfl, rfl, ?_, fun p ob hp hd => ?_⟩
    · rw [e3.length]
      exact Nat.le_trans hl (by decide)
    · have s1 : Same H (upd H p (.frz ob (.tup ws))) := same_upd hp
      refine ⟨x, p, dx, ws, ss, rfl, s1 _ _ e1, ⟨ob, hd, upd_same⟩, e3.same s1, hl, hs, fun H' b1 b2 => ?_⟩
      exact k H' p (fun b o n e => b1 b o n (s1 _ _ e)) b2 ⟨ob, hd, b1 _ _ (ne_of_none e1 hp).symm upd_same⟩
end
end Cc

/-! A rule of our own: a set of ints by two clauses, {e for a in xs for b in ys if t}. -/
namespace Cc
open PySem PySem.Spec PyProof.Rows L2
/-- the comprehension: the first clause has no test -/
abbrev scE (el ta ia tb ib : Expr) (fb : List Expr) (sc : Scope) (ps : Pos) : Expr := .SetComp el [⟨ta, ia, [], 0⟩, ⟨tb, ib, fb, 0⟩] sc ps
section
variable {pr : Program} {ww : World} {A : Around} {R : Result → Shared → Prop} {st : Shared} {el ta ia tb ib : Expr} {fb : List Expr} {sc : Scope} {ps : Pos} {it ac : Value} {en : Env}
theorem noX {α : Type} {M : Model} {t : Sem α} {G : α → Shared → Prop} {E : Value → Shared → Prop} (h : wpAny M A t G (fun _ _ => False) st) : wpAny M A t G E st := wpAny_mono h (fun _ _ q => q) fun _ _ q => q.elim
theorem sc_outer (hf : ∀ x, foldedSetIterable ib en x = pure x) (J : Nat → Shared → Prop)
    (go : ∀ n z, J n z → wpAny (model pr ww) A (pyNext it) (fun r z1 => match r with
      | none => R (.ok .next) z1
      | some v => wpAny (model pr ww) A (letOwnedTupleGo ta it v) (fun _ z2 => wpAny (model pr ww) A (assign ta en v) (fun _ z3 => wpAny (model pr ww) A (eval ib en) (fun x z4 => wpAny (model pr ww) A (pyIter x) (fun i2 z5 =>
          codeAny (model pr ww) A (.compStart (scE el ta ia tb ib fb sc ps) 1 i2 ac en) (fun r z6 => match r with | .ok _ => ∃ m, m < n ∧ J m z6 | .error _ => False) z5)
          (fun _ _ => False) z4) (fun _ _ => False) z3) (fun _ _ => False) z2) (fun _ _ => False) z1) (fun _ _ => False) z) (n : Nat) (h : J n st) :
    codeAny (model pr ww) A (.compLoop (scE el ta ia tb ib fb sc ps) 0 it ac en) R st := by
  refine codeAny_loop rfl J (fun n z hz => ?_) n h
  show wpAny _ A ((compTurn (scE el ta ia tb ib fb sc ps) 0 it ac en).onRaise (fun x => do noteFrame x en; theTreesLotGoes x)) _ _ z
  refine wpAny_noted ?_
  have tree : compTurn (scE el ta ia tb ib fb sc ps) 0 it ac en = (do
      standAt ia.pos
      match ← pyNext it with
      | none => pure (.done .next)
      | some v =>
        letOwnedTupleGo ta it v
        assign ta en v
        let mut good := true
        for c in ([] : List Expr) do
          if good then good ← isTrue c en (eval c en)
        if good then
          let x ← eval ib en
          standAt ib.pos
          let x ← foldedSetIterable ib en x
          let _ ← runOwn (.compStart (scE el ta ia tb ib fb sc ps) 1 (← holding [x] (pyIter x)) ac en) en
        again (.compLoop (scE el ta ia tb ib fb sc ps) 0 it ac en)) := by rfl
  rw [tree]
  refine wpAny_bind (wpAny_standAt (wpAny_bind (wpAny_mono (go n z hz) (fun r z1 h1 => ?_) fun _ _ q => q.elim)))
  cases r with
  | none => exact wpAny_pure h1
  | some v =>
    refine wpAny_bind (wpAny_mono h1 (fun _ z2 h2 => wpAny_bind (wpAny_mono h2 (fun _ z3 h3 => ?_) fun _ _ q => q.elim)) fun _ _ q => q.elim)
    refine wpAny_bind (wpAny_of_eq (a := true) (by rfl) ?_)
    refine wpAny_bind (wpAny_mono h3 (fun x z4 h4 => ?_) fun _ _ q => q.elim)
    refine wpAny_bind (wpAny_standAt (wpAny_bind (wpAny_of_eq (hf x) (wpAny_bind (wpAny_holding (wpAny_mono h4 (fun i2 z5 h5 => ?_) fun _ _ q => q.elim))))))
    refine wpAny_bind (wpAny_runOwn (M := model pr ww) ?_)
    rw [Around.mark_none]
    refine codeAny_mono h5 fun r z6 h6 => ?_
    cases r with
    | error e => exact h6.elim
    | ok f => first
      | exact wpAny_pure ⟨rfl, h6⟩
      | exact wpAny_bind (wpAny_pure (wpAny_pure ⟨rfl, h6⟩))
theorem sc_inner (J : Nat → Shared → Prop)
    (go : ∀ n z, J n z → wpAny (model pr ww) A (pyNext it) (fun r z1 => match r with
      | none => R (.ok .next) z1
      | some v => wpAny (model pr ww) A (letOwnedTupleGo tb it v) (fun _ z2 => wpAny (model pr ww) A (assign tb en v) (fun _ z3 =>
          wpAny (model pr ww) A (forIn fb true fun c r => if r = true then do let ok ← isTrue c en (eval c en); pure (ForInStep.yield ok) else pure (ForInStep.yield r)) (fun good z4 =>
            if good = true then wpAny (model pr ww) A (eval el en) (fun x z5 => wpAny (model pr ww) A (call (.builtin "set.add") [ac, x]) (fun _ z6 => ∃ m, m < n ∧ J m z6) (fun _ _ => False) z5) (fun _ _ => False) z4
            else ∃ m, m < n ∧ J m z4) (fun _ _ => False) z3) (fun _ _ => False) z2) (fun _ _ => False) z1) (fun _ _ => False) z) (n : Nat) (h : J n st) :
    codeAny (model pr ww) A (.compLoop (scE el ta ia tb ib fb sc ps) 1 it ac en) R st := by
  refine codeAny_loop rfl J (fun n z hz => ?_) n h
  show wpAny _ A ((compTurn (scE el ta ia tb ib fb sc ps) 1 it ac en).onRaise (fun x => do noteFrame x en; theTreesLotGoes x)) _ _ z
  refine wpAny_noted ?_
  have tree : compTurn (scE el ta ia tb ib fb sc ps) 1 it ac en = (do
      standAt ib.pos
      match ← pyNext it with
      | none => pure (.done .next)
      | some v =>
        letOwnedTupleGo tb it v
        assign tb en v
        let mut good := true
        for c in fb do
          if good then good ← isTrue c en (eval c en)
        if good then
          (do let v ← eval el en; standAt el.pos; let _ ← call (.builtin "set.add") [ac, v])
        again (.compLoop (scE el ta ia tb ib fb sc ps) 1 it ac en)) := by rfl
  rw [tree]
  refine wpAny_bind (wpAny_standAt (wpAny_bind (wpAny_mono (go n z hz) (fun r z1 h1 => ?_) fun _ _ q => q.elim)))
  cases r with
  | none => exact wpAny_pure h1
  | some v =>
    refine wpAny_bind (wpAny_mono h1 (fun _ z2 h2 => wpAny_bind (wpAny_mono h2 (fun _ z3 h3 => ?_) fun _ _ q => q.elim)) fun _ _ q => q.elim)
    refine wpAny_bind (wpAny_mono h3 (fun good z4 h4 => ?_) fun _ _ q => q.elim)
    cases good with
    | false => exact wpAny_pure ⟨rfl, h4⟩
    | true => exact wpAny_bind (wpAny_bind (wpAny_mono h4 (fun x z5 h5 => wpAny_bind (wpAny_standAt (wpAny_bind (wpAny_mono h5 (fun _ z6 h6 => wpAny_pure (wpAny_pure ⟨rfl, h6⟩)) fun _ _ q => q.elim)))) fun _ _ q => q.elim))
/-- the second clause begins -/
theorem sc_begin (h0 : codeAny (model pr ww) A (.compLoop (scE el ta ia tb ib fb sc ps) 1 it ac en) R st)
    (h : wpAny (model pr ww) A (pyIter it) (fun i2 z => codeAny (model pr ww) A (.compLoop (scE el ta ia tb ib fb sc ps) 1 i2 ac en) R z) (fun _ _ => False) st) :
    codeAny (model pr ww) A (.compStart (scE el ta ia tb ib fb sc ps) 1 it ac en) R st := by
  refine codeAny_of_tree ?_
  show wpAny _ _ ((compStart (scE el ta ia tb ib fb sc ps) 1 it ac en).onRaise (fun x => do noteFrame x en; standAt theWindowsPlace)) _ _ st
  refine wpAny_notedAt ?_
  unfold compStart
  show wpAny _ _ (ask >>= _) _ _ st
  apply wpAny_bind; refine wpAny_askSetting (wpAny_ite ?_)
  split
  · first
      | exact wpAny_pure ⟨rfl, h0⟩
      | exact wpAny_bind (wpAny_pure (wpAny_pure ⟨rfl, h0⟩))
  · apply wpAny_bind; refine wpAny_rule ?_
    show wpAny _ _ (standAt ib.pos >>= _) _ _ st
    exact wpAny_bind (wpAny_standAt (wpAny_bind (wpAny_mono h (fun i2 z q => wpAny_pure ⟨rfl, q⟩) fun _ _ q => q.elim)))
end
/-- its reading: D the new set; behind the first clause's store the second source's own loop, from which Nx is reached -/
def tSc2 (w : World) (wi : TI) (g : TG) (wi1 : TI) (g1 : TG) (tt1 : TT) (te : TE) (vs vs1 : List Nat) : TE := fun sg G Q => wi sg G fun J G1 => ∀ D, G1 D = none →
  ∃ W : Nat → Nat → Hp → Prop, (∃ m, W 0 m (upd G1 D (SetO w D (fun _ => false) 0))) ∧ ∀ i m G, W i m G →
    (J.stop i G ∧ Q (.ref D) G) ∨ (J.go i G ∧ ∃ Nx : Hp → Prop, (∀ G', Nx G' → ∃ m', m' < m ∧ W (i + 1) m' G') ∧ ∀ x G', J.yld i G x G' →
      g x (wipe sg vs) G' fun sg2 G2 => wipe sg2 vs = wipe sg vs ∧ wi1 sg2 G2 fun J1 G3 => ∃ W1 : Nat → Nat → Hp → Prop, (∃ m, W1 0 m G3) ∧ ∀ j k G, W1 j k G →
        (J1.stop j G ∧ Nx G) ∨ (J1.go j G ∧ ∃ Ny : Hp → Prop, (∀ G', Ny G' → ∃ k', k' < k ∧ W1 (j + 1) k' G') ∧ ∀ x G', J1.yld j G x G' →
          g1 x (wipe sg2 vs1) G' fun sg3 G4 => wipe sg3 vs1 = wipe sg2 vs1 ∧ tt1 sg3 G4 fun b G5 =>
            if b = true then te sg3 G5 fun y G6 => ∃ (c : Int) (S : Int → Bool) (n : Nat), y = .int c ∧ G6 D = some (SetO w D S n) ∧ n + 1 < scanBound ∧ Ny (upd G6 D (SetO w D (fun j => S j || decide (j = c)) (if S c = true then n else n + 1))) else Ny G5))
section
variable {X : Cx}
theorem pe_sc2 {el ta ia tb ib : Expr} {fb : List Expr} {sc : Scope} {own : List (Str × Nat)} {vs1 : List Nat} {ps : Pos} {wi wi1 : TI} {g g1 : TG} {tt1 : TT} {te : TE} (hc : X.calm = true) (hN : X.N.Nodup) (hi : PI X ta ia wi) (ok : BlkOk X.N X.env.scope sc own) (hv : ∀ i ∈ vs1, i ∈ own.map (·.2))
    (hg : ∀ (s : Shared) (H : Hp) (C : Addr) (cl : List (Str × Addr)) (fp : List Addr), PG (X.blk s H sc (compEnvC sc cl C X.env) fp) ta g)
    (hi1 : ∀ (s : Shared) (H : Hp) (C : Addr) (cl : List (Str × Addr)) (fp : List Addr), PI (X.blk s H sc (compEnvC sc cl C X.env) fp) tb ib wi1)
    (hg1 : ∀ (s : Shared) (H : Hp) (C : Addr) (cl : List (Str × Addr)) (fp : List Addr), PG (X.blk s H sc (compEnvC sc cl C X.env) fp) tb g1)
    (ht1 : ∀ (s : Shared) (H : Hp) (C : Addr) (cl : List (Str × Addr)) (fp : List Addr), PTs (X.blk s H sc (compEnvC sc cl C X.env) fp) fb tt1)
    (he : ∀ (s : Shared) (H : Hp) (C : Addr) (cl : List (Str × Addr)) (fp : List Addr), PE (X.blk s H sc (compEnvC sc cl C X.env) fp) el te)
    (hs : ∀ x, foldedSetIterable ia X.env x = pure x := by intro _; rfl) (hs1 : ∀ env x, foldedSetIterable ib env x = pure x := by intro _ _; rfl) :
    PE X (scE el ta ia tb ib fb sc ps) (tSc2 X.w wi g wi1 g1 tt1 te (own.map (·.2)) vs1) := by
  refine ⟨fun pz z0 sg G0 Qq K0 h => ?_⟩
  rw [PpSet.eval_SetComp]
  have frees : ∀ y ∈ sc.names, y.2 = .free → ∃ c, X.env.cells.lookup y.1 = some c := fun y hy e => K0.ok.has _ ((ok.free y hy e).elim (fun a => .inl a) fun a => .inr a)
  refine wpAny_comprehension_free (use := none) rfl hs (closure_ok frees) ok.kind (fun y hy e => (ok.uniq y hy).trans (congrArg some e)) (thn (hi.run pz z0 sg G0 _ K0 h) fun _ z1 h1 => thn h1 fun iv z2 h2 => ?_)
  obtain ⟨it, fp, tn, Jt, G2, rfl, K2, T, t2, f2, q⟩ := h2
  refine PpSet.newSet_ok (newEnv_comp ?_)
  -- the new set, at D
  obtain ⟨D, hD⟩ : ∃ D, D = z2.heap.objs.size := ⟨_, rfl⟩
  rw [← hD]
  have freeD : G2 D = none := K2.hok.fresh (Nat.le_of_eq hD.symm)
  obtain ⟨W, ⟨m0, w0⟩, turn⟩ := q D freeD
  obtain ⟨z3, hz3⟩ : ∃ z3 : Shared, z3 = { z2 with heap := z2.heap.push { cls := .type "set", dict := none, data := .set #[] 0 (.fresh 0 0 (!X.w.params.followText "set-order")) } } := ⟨_, rfl⟩
  have p3 : z3.heap = z2.heap.push { cls := .type "set", dict := none, data := .set #[] 0 (.fresh 0 0 (!X.w.params.followText "set-order")) } := by rw [hz3]
  have keep3 : ∀ b o, z2.heap.get? b = some o → z3.heap.get? b = some o := fun b o e => by
    rw [p3]
    exact Heap.get?_push_of_some (h := z2.heap) _ e
  have K3 : Inv X pz sg (upd G2 D (SetO X.w D (fun _ => false) 0)) z3 := by
    rw [hz3]
    exact K2.laid (t' := z2.toks) (fun b o e => Heap.get?_push_of_some _ e) (Nat.le_of_eq hD.symm) (hD ▸ setO_new (setR_fresh X.w))
  have old : ∀ b ∈ fp, b < z2.heap.objs.size := fun b hb => (T.obj _ _ t2 b hb).elim fun _ e => Heap.lt_size e.1
  have f3 : ∀ b ∈ fp, FpOk X pz (upd G2 D (SetO X.w D (fun _ => false) 0)) b ∧ b < z3.heap.objs.size := fun b hb =>
    ⟨⟨by rw [upd_ne (by rw [hD]; exact Nat.ne_of_lt (old b hb))]; exact (f2 b hb).1, (f2 b hb).2⟩, by rw [p3, Heap.size_push]; exact Nat.lt_succ_of_lt (old b hb)⟩
  have K4 := block_start K3 ok hN f3
  have nf : ∀ b ∈ fp, upd G2 D (SetO X.w D (fun _ => false) 0) b = none := fun b hb => (f3 b hb).1.1
  -- the block's context
  have Bg := hg z3 (upd G2 D (SetO X.w D (fun _ => false) 0)) z3.heap.objs.size (cellsFrom (z3.heap.objs.size + 1) sc.names (cloFrom X.env.cells sc.names [])) fp
  have Bi := hi1 z3 (upd G2 D (SetO X.w D (fun _ => false) 0)) z3.heap.objs.size (cellsFrom (z3.heap.objs.size + 1) sc.names (cloFrom X.env.cells sc.names [])) fp
  have Bh := hg1 z3 (upd G2 D (SetO X.w D (fun _ => false) 0)) z3.heap.objs.size (cellsFrom (z3.heap.objs.size + 1) sc.names (cloFrom X.env.cells sc.names [])) fp
  have Bt := ht1 z3 (upd G2 D (SetO X.w D (fun _ => false) 0)) z3.heap.objs.size (cellsFrom (z3.heap.objs.size + 1) sc.names (cloFrom X.env.cells sc.names [])) fp
  have Be := he z3 (upd G2 D (SetO X.w D (fun _ => false) 0)) z3.heap.objs.size (cellsFrom (z3.heap.objs.size + 1) sc.names (cloFrom X.env.cells sc.names [])) fp
  have goal : codeAny (model X.prog X.w) X.A (.compStart (scE el ta ia tb ib fb sc ps) 0 (.ref it) (.ref D) (compEnvC sc (cellsFrom (z3.heap.objs.size + 1) sc.names (cloFrom X.env.cells sc.names [])) z3.heap.objs.size X.env))
      (compPost (model X.prog X.w) X.A X.xe none (EP X pz sg Qq) (.ref D) z3.heap.objs.size) { z3 with heap := pushCells (z3.heap.push { cls := .type "dict", data := .dict #[] }) sc.names } := by
    obtain ⟨ce, hce⟩ : ∃ ce, ce = compEnvC sc (cellsFrom (z3.heap.objs.size + 1) sc.names (cloFrom X.env.cells sc.names [])) z3.heap.objs.size X.env := ⟨_, rfl⟩
    rw [← hce] at K4 Bg Bi Bh Bt Be ⊢
    have lc : ce.locals = z3.heap.objs.size := by rw [hce]; rfl
    obtain ⟨G3, hG3⟩ : ∃ G3, G3 = upd G2 D (SetO X.w D (fun _ => false) 0) := ⟨_, rfl⟩
    rw [← hG3] at K3 K4 Bg Bi Bh Bt Be w0 f3
    have nf3 : ∀ b ∈ fp, G3 b = none := fun b hb => (f3 b hb).1.1
    obtain ⟨z4, hz4⟩ : ∃ z4 : Shared, z4 = { z3 with heap := pushCells (z3.heap.push { cls := .type "dict", data := .dict #[] }) sc.names } := ⟨_, rfl⟩
    rw [← hz4] at K4 ⊢
    have t4 : tn 0 z4.heap := T.keep _ _ _ t2 fun b _ o e => by
      rw [hz4]
      exact pushCells_keeps _ _ _ _ (Heap.get?_push_of_some _ (keep3 b o e))
    -- the iterator's objects stay untracked
    have fpk : ∀ {sg' : L2.St} {G' : Hp} {z' : Shared}, Inv (X.blk z3 G3 sc ce fp) [] sg' G' z' → (∀ b ∈ fp, G' b = none) → ∀ b ∈ fp, FpOk (X.blk z3 G3 sc ce fp) [] G' b := fun Kk hn b hb =>
      ⟨hn b hb, (Kk.ok.exf b hb).1, Kk.ok.exfs b hb, .inl hb, fun x c e => (Kk.ok.exf b hb).2 x c e, fun p hp => by simp at hp⟩
    have loop : codeAny (model X.prog X.w) X.A (.compLoop (scE el ta ia tb ib fb sc ps) 0 (.ref it) (.ref D) ce) (compPost (model X.prog X.w) X.A X.xe none (EP X pz sg Qq) (.ref D) z3.heap.objs.size) z4 := by
      refine sc_outer (hs1 ce) (fun n z => ∃ i G, Inv (X.blk z3 G3 sc ce fp) [] (wipe sg (own.map (·.2))) G z ∧ tn i z.heap ∧ (∀ b ∈ fp, G b = none) ∧ W i n G) ?_ m0 ⟨0, G3, K4, t4, nf3, w0⟩
      rintro n z5 ⟨i, G5, K5, t5, n5, w5⟩
      rcases turn i n G5 w5 with ⟨halt, qq⟩ | ⟨go, Nx, hNx, step⟩
      · refine thnF (T.done (X.blk z3 G3 sc ce fp) rfl rfl rfl hc i [] z5 _ G5 (fun _ _ => False) K5 (fpk K5 n5) t5 halt) fun r z6 ⟨hr, K6⟩ => ?_
        subst hr
        have K7 : Inv X pz sg G5 z6 := K3.call' (ch := fp) K6.os K6.base K6.hok K6.bare fun b hb => ⟨(f3 b hb).1.2.2.2.1, (f3 b hb).1.2.1, (f3 b hb).1.2.2.2.2.1, (f3 b hb).1.2.2.2.2.2⟩
        have nC : G5 z3.heap.objs.size = none := lc ▸ (show G5 ce.locals = none from K6.free)
        obtain ⟨m, hm, _⟩ := K6.loc
        have ff := K3.fpOk (Nat.le_refl _) nC
        refine ⟨m, lc ▸ (show z6.heap.Ns ce.locals m from hm), fun h'' sb => ?_⟩
        obtain ⟨a0, a1, _, a3, a4, a5⟩ := ff
        exact ⟨.ref D, G5, K7.turned (t' := z6.toks) (fun b o hb e => (sb.2 b hb).trans e) a0 a1 a3 a4 a5, rfl, qq⟩
      · refine thnF (T.item (X.blk z3 G3 sc ce fp) rfl rfl rfl hc i [] z5 _ G5 (fun _ _ => False) K5 (fpk K5 n5) t5 go) fun r z6 ⟨u, hr, h6⟩ => ?_
        subst hr
        refine thnF h6 fun _ z7 ⟨x, G7, K7, r7, y7, t7, n7⟩ => ?_
        refine thnF (Bg.run _ z7 _ G7 x u _ (K7.pinned (fpk K7 n7) (T.obj _ _ t7)) r7 (step x G7 y7)) fun _ z8 ⟨sg8, G8, K8, w8, q8⟩ => ?_
        have len8 : (wipe sg (own.map (·.2))).length = sg8.length := by rw [← w8, wipe_length]
        -- the turn's end
        have fin : ∀ {z' : Shared} {G' : Hp}, Inv (X.blk z3 G3 sc ce fp) ([] ++ pinsAt fp z7.heap) (wipe sg8 vs1) G' z' → Nx G' → ∃ m, m < n ∧ ∃ i G, Inv (X.blk z3 G3 sc ce fp) [] (wipe sg (own.map (·.2))) G z' ∧ tn i z'.heap ∧ (∀ b ∈ fp, G b = none) ∧ W i m G := fun {z' G'} Kk nx => by
          obtain ⟨m', lt, w'⟩ := hNx G' nx
          have pin : ∀ b ∈ fp, ∀ o, z7.heap.get? b = some o → z'.heap.get? b = some o ∧ G' b = none := fun b hb o e =>
            let y := Kk.pin (b, o) (List.mem_append_right _ (List.mem_append_right _ (mem_pinsAt hb e)))
            ⟨y.1, y.2.1⟩
          refine ⟨m', lt, i + 1, G', (Kk.unpinned (pins := [])).weak (by rw [len8, wipe_length]) (fun j v e => ?_), T.keep _ _ _ t7 fun b hb o e => (pin b hb o e).1, fun b hb => ?_, w'⟩
          · rw [← w8] at e
            obtain ⟨e1, e2⟩ := wipe_some (σ := sg8) e
            rw [wipe_out fun y => e2 (hv j y)]
            exact e1
          · obtain ⟨o, e, _⟩ := T.obj _ _ t7 b hb
            exact (pin b hb o e).2
        refine thnF (Bi.run _ z8 sg8 G8 _ K8 q8) fun _ z9 h9 => thnF h9 fun iw z10 h10 => ?_
        obtain ⟨it1, fp1, tn1, J1, G10, rfl, K10, T1, t10, f10, W1, ⟨m1, w1⟩, turn1⟩ := h10
        have fpk1 : ∀ {G' : Hp}, (∀ b ∈ fp1, G' b = none) → ∀ b ∈ fp1, FpOk (X.blk z3 G3 sc ce fp) ([] ++ pinsAt fp z7.heap) G' b := fun hn b hb => ⟨hn b hb, (f10 b hb).2⟩
        have loop1 : codeAny (model X.prog X.w) X.A (.compLoop (scE el ta ia tb ib fb sc ps) 1 (.ref it1) (.ref D) ce)
            (fun r z' => match r with | .ok _ => ∃ m, m < n ∧ ∃ i G, Inv (X.blk z3 G3 sc ce fp) [] (wipe sg (own.map (·.2))) G z' ∧ tn i z'.heap ∧ (∀ b ∈ fp, G b = none) ∧ W i m G | .error _ => False) z10 := by
          refine sc_inner (fun k z => ∃ j G, Inv (X.blk z3 G3 sc ce fp) ([] ++ pinsAt fp z7.heap) (wipe sg8 vs1) G z ∧ tn1 j z.heap ∧ (∀ b ∈ fp1, G b = none) ∧ W1 j k G) ?_ m1 ⟨0, G10, K10.weak (wipe_length _ _) (fun j v e => (wipe_some e).1), t10, fun b hb => (f10 b hb).1, w1⟩
          rintro k z11 ⟨j, G11, K11, t11, n11, w11⟩
          rcases turn1 j k G11 w11 with ⟨halt1, nx1⟩ | ⟨go1, Ny, hNy, step1⟩
          · refine thnF (T1.done (X.blk z3 G3 sc ce fp) rfl rfl rfl hc j _ z11 (wipe sg8 vs1) G11 (fun _ _ => False) K11 (fpk1 n11) t11 halt1) fun r z12 ⟨hr, K12⟩ => ?_
            subst hr
            exact fin K12 nx1
          · refine thnF (T1.item (X.blk z3 G3 sc ce fp) rfl rfl rfl hc j _ z11 (wipe sg8 vs1) G11 (fun _ _ => False) K11 (fpk1 n11) t11 go1) fun r z12 ⟨u1, hr, h12⟩ => ?_
            subst hr
            refine thnF h12 fun _ z13 ⟨x1, G13, K13, r13, y13, t13, n13⟩ => ?_
            refine thnF (Bh.run _ z13 (wipe sg8 vs1) G13 x1 u1 _ (K13.pinned (fpk1 n13) (T1.obj _ _ t13)) r13 (step1 x1 G13 y13)) fun _ z14 ⟨sg14, G14, K14, w14, q14⟩ => ?_
            refine thnF (Bt.run _ z14 sg14 G14 _ K14 q14) fun b z15 ⟨G15, K15, q15⟩ => ?_
            have fin1 : ∀ {z' : Shared} {G' : Hp}, Inv (X.blk z3 G3 sc ce fp) (([] ++ pinsAt fp z7.heap) ++ pinsAt fp1 z13.heap) sg14 G' z' → Ny G' → ∃ m, m < k ∧ ∃ j G, Inv (X.blk z3 G3 sc ce fp) ([] ++ pinsAt fp z7.heap) (wipe sg8 vs1) G z' ∧ tn1 j z'.heap ∧ (∀ b ∈ fp1, G b = none) ∧ W1 j m G := fun {z' G'} Kk nx => by
              obtain ⟨m', lt, w'⟩ := hNy G' nx
              have pin : ∀ b ∈ fp1, ∀ o, z13.heap.get? b = some o → z'.heap.get? b = some o ∧ G' b = none := fun b hb o e =>
                let y := Kk.pin (b, o) (List.mem_append_right _ (List.mem_append_right _ (mem_pinsAt hb e)))
                ⟨y.1, y.2.1⟩
              refine ⟨m', lt, j + 1, G', Kk.unpinned.weak (by rw [← w14, wipe_length]) (fun j v e => by rw [← w14] at e; exact (wipe_some e).1), T1.keep _ _ _ t13 fun b hb o e => (pin b hb o e).1, fun b hb => ?_, w'⟩
              obtain ⟨o, e, _⟩ := T1.obj _ _ t13 b hb
              exact (pin b hb o e).2
            cases b with
            | false =>
              simp only [Bool.false_eq_true, if_false] at q15 ⊢
              exact fin1 K15 q15
            | true =>
              simp only [if_true] at q15 ⊢
              refine thnF (Be.run _ z15 sg14 G15 _ K15 q15) fun v z16 ⟨y, G16, K16, r16, c, S, nn, ey, hS, hroom, nx⟩ => ?_
              subst ey
              refine wpAny_mono (((mt_sadd (X := X.blk z3 G3 sc ce fp)) _ z16 sg14 G16 (.ref D) [.int c] (.ref D) [v] (fun _ G' => Ny G') K16 rfl (.cons r16 .nil) ⟨D, c, S, nn, rfl, rfl, hS, hroom, nx⟩)) (fun _ z17 ⟨_, G17, K17, _, q17⟩ => fin1 K17 q17) fun _ _ q => q
        exact sc_begin loop1 (T1.self X.A 0 _ _ _ t10 loop1)
    exact PpSet.codeAny_compStart_set loop (T.self X.A 0 _ _ _ t4 loop)
  exact hz3 ▸ goal
end
end Cc

/-! The first start at which two plans differ is a telling one. -/
namespace Cc
open PySem PySem.Spec PyProof.Rows L2
/-- what a plan leaves and carries from x -/
abbrev outF (c : Int) (ss : List Stp) (x : Int) : Int × Int := stepsF c ss (x, 0)
theorem smEnd_ends (m : Sm) : (smEnd m).low = m.low ∧ (smEnd m).high = m.high := by
  unfold smEnd
  split <;> exact ⟨rfl, rfl⟩
theorem dist_even {lo hi x : Int} (h : lo ≤ hi) (h1 : x ≠ lo) (h2 : x ≠ lo + 1) (h3 : x ≠ hi) (h4 : x ≠ hi + 1) : distF lo hi x = 2 * distF lo hi (x - 1) - distF lo hi (x - 2) ∧ clampF lo hi x = 2 * clampF lo hi (x - 1) - clampF lo hi (x - 2) := by
  unfold distF clampF
  constructor <;> omega
/-- off the ends both numbers go on evenly -/
theorem out_even {c x : Int} {ss : List Stp} (hs : ∀ s ∈ ss, s.ok c) (x2 : 2 ≤ x) (x1 : x ≤ c) (h1 : x ≠ (smSteps c ss).low) (h2 : x ≠ (smSteps c ss).low + 1) (h3 : x ≠ (smSteps c ss).high) (h4 : x ≠ (smSteps c ss).high + 1) :
    (outF c ss x).1 = 2 * (outF c ss (x - 1)).1 - (outF c ss (x - 2)).1 ∧ (outF c ss x).2 = 2 * (outF c ss (x - 1)).2 - (outF c ss (x - 2)).2 := by
  obtain ⟨ok, a1, a2⟩ := smSteps_says (c := c) (x := x) (by omega) x1 ss hs
  obtain ⟨_, b1, b2⟩ := smSteps_says (c := c) (x := x - 1) (by omega) (by omega) ss hs
  obtain ⟨_, d1, d2⟩ := smSteps_says (c := c) (x := x - 2) (by omega) (by omega) ss hs
  obtain ⟨e1, e2⟩ := dist_even ok.lh h1 h2 h3 h4
  show (stepsF c ss (x, 0)).1 = 2 * (stepsF c ss (x - 1, 0)).1 - (stepsF c ss (x - 2, 0)).1 ∧ (stepsF c ss (x, 0)).2 = 2 * (stepsF c ss (x - 1, 0)).2 - (stepsF c ss (x - 2, 0)).2
  generalize (stepsF c ss (x, 0)) = px at *
  generalize (stepsF c ss (x - 1, 0)) = py at *
  generalize (stepsF c ss (x - 2, 0)) = pz at *
  obtain ⟨px1, px2⟩ := px
  obtain ⟨py1, py2⟩ := py
  obtain ⟨pz1, pz2⟩ := pz
  simp only at a1 a2 b1 b2 d1 d2
  generalize smSteps c ss = m at *
  obtain ⟨low, high, extra, goal, turned⟩ := m
  simp only at a1 a2 b1 b2 d1 d2 e1 e2
  refine ⟨?_, by show px2 = 2 * py2 - pz2; omega⟩
  show px1 = 2 * py1 - pz1
  cases goal <;> cases turned <;> simp [placeF, sideF] at a2 b2 d2 <;> omega
/-- the numbers that `telling` lists: 0 and both plans' ends, each with the next -/
def boundsF (c : Int) (a b : List Stp) : List Int := [0, (smSteps c a).low, (smSteps c a).high, (smSteps c b).low, (smSteps c b).high]
def TellF (c : Int) (a b : List Stp) (x : Int) : Prop := x ≤ c ∧ ∃ z ∈ boundsF c a b, x = z ∨ x = z + 1
theorem tell_first {c x : Int} {a b : List Stp} (ha : ∀ s ∈ a, s.ok c) (hb : ∀ s ∈ b, s.ok c) (x0 : 0 ≤ x) (x1 : x ≤ c) (hd : outF c a x ≠ outF c b x) (hs : ∀ y, 0 ≤ y → y < x → outF c a y = outF c b y) : TellF c a b x := by
  by_cases q : TellF c a b x
  · exact q
  · exfalso
    have f : ∀ z ∈ boundsF c a b, x ≠ z ∧ x ≠ z + 1 := fun z hz => ⟨fun e => q ⟨x1, z, hz, .inl e⟩, fun e => q ⟨x1, z, hz, .inr e⟩⟩
    simp only [boundsF, List.mem_cons, List.not_mem_nil, or_false, forall_eq_or_imp, forall_eq] at f
    obtain ⟨f0, f1, f2, f3, f4⟩ := f
    obtain ⟨p1, p2⟩ := out_even ha (show 2 ≤ x by omega) x1 f1.1 f1.2 f2.1 f2.2
    obtain ⟨q1, q2⟩ := out_even hb (show 2 ≤ x by omega) x1 f3.1 f3.2 f4.1 f4.2
    have g1 := hs (x - 1) (by omega) (by omega)
    have g2 := hs (x - 2) (by omega) (by omega)
    rw [g1, g2] at p1 p2
    exact hd (Prod.ext (p1.trans q1.symm) (p2.trans q2.symm))
/-- what first_difference answers -/
def FirstF (c : Int) (a b : List Stp) : Option Int → Prop
  | none => ∀ x, 0 ≤ x → x ≤ c → outF c a x = outF c b x
  | some x => 0 ≤ x ∧ x ≤ c ∧ outF c a x ≠ outF c b x ∧ ∀ y, 0 ≤ y → y < x → outF c a y = outF c b y
theorem below {c : Int} {a b : List Stp} (ha : ∀ s ∈ a, s.ok c) (hb : ∀ s ∈ b, s.ok c) {n : Int} (hn : n ≤ c + 1) (ht : ∀ y, 0 ≤ y → y < n → TellF c a b y → outF c a y = outF c b y) : ∀ (k : Nat) (y : Int), y = (k : Int) → y < n → outF c a y = outF c b y := by
  intro k
  induction k using Nat.strongRecOn with
  | _ k ih =>
    intro y hy hlt
    by_cases q : outF c a y = outF c b y
    · exact q
    · exact ht y (by omega) hlt (tell_first ha hb (by omega) (by omega) q fun z z0 z1 => ih z.toNat (by omega) z (by omega) (by omega))
theorem first_some {c : Int} {a b : List Stp} (ha : ∀ s ∈ a, s.ok c) (hb : ∀ s ∈ b, s.ok c) {x : Int} (x0 : 0 ≤ x) (x1 : x ≤ c) (hd : outF c a x ≠ outF c b x) (ht : ∀ y, 0 ≤ y → y < x → TellF c a b y → outF c a y = outF c b y) : FirstF c a b (some x) :=
  ⟨x0, x1, hd, fun y y0 y1 => below ha hb (n := x) (by omega) ht y.toNat y (by omega) y1⟩
theorem first_none {c : Int} {a b : List Stp} (ha : ∀ s ∈ a, s.ok c) (hb : ∀ s ∈ b, s.ok c) (ht : ∀ y, 0 ≤ y → y ≤ c → TellF c a b y → outF c a y = outF c b y) : FirstF c a b none :=
  fun x x0 x1 => below ha hb (n := c + 1) (by omega) (fun y y0 y1 => ht y y0 (by omega)) x.toNat x (by omega) (by omega)
theorem first_uniq {c : Int} {a b : List Stp} : ∀ {o o' : Option Int}, FirstF c a b o → FirstF c b a o' → o = o'
  | none, none, _, _ => rfl
  | none, some x, h, ⟨x0, x1, hd, _⟩ => absurd (h x x0 x1).symm hd
  | some x, none, ⟨x0, x1, hd, _⟩, h => absurd (h x x0 x1).symm hd
  | some x, some y, ⟨x0, x1, hd, hm⟩, ⟨y0, y1, he, hn⟩ => by
    have e : x = y := by
      rcases Int.lt_trichotomy x y with q | q | q
      · exact absurd (hn x x0 q).symm hd
      · exact q
      · exact absurd (hm y y0 q).symm he
    rw [e]
theorem eqv_ints (a b c d : Int) : PyData.eqv (.tuple [.int a, .int b]) (.tuple [.int c, .int d]) = decide ((a, b) = (c, d)) := by
  have q : ∀ i j : Int, (i == j) = decide (i = j) := fun i j => by by_cases h : i = j <;> simp [h]
  simp [PyData.eqv, PyData.eqvAll, q]
theorem shaped_ints (a b : Int) : SeqAt.shaped (.tuple [.int a, .int b]) = true := by
  simp [SeqAt.shaped, PyData.canLay0, PyData.canLayAll0, PyData.depth, PyData.depthAll]
/-- a part of a list of steps -/
theorem Steps.drop {H : Hp} : ∀ {vs : List V} {ss : List Stp} (n : Nat), Steps H vs ss → Steps H (vs.drop n) (ss.drop n)
  | _, _, 0, h => h
  | _, _, _ + 1, .nil => .nil
  | _, _, n + 1, .cons _ t => Steps.drop n t
theorem Steps.take {H : Hp} : ∀ {vs : List V} {ss : List Stp} (n : Nat), Steps H vs ss → Steps H (vs.take n) (ss.take n)
  | _, _, 0, _ => .nil
  | _, _, _ + 1, .nil => .nil
  | _, _, n + 1, .cons r t => .cons r (Steps.take n t)
theorem Steps.cut {H : Hp} {vs : List V} {ss : List Stp} (h : Steps H vs ss) (lo hi : Option Int) : ∃ us, Steps H (cutV vs lo hi) us ∧ us.length ≤ ss.length ∧ ∀ u ∈ us, u ∈ ss := by
  refine ⟨_, (h.drop _).take _, ?_, fun u hu => List.mem_of_mem_drop (List.mem_of_mem_take hu)⟩
  simp only [List.length_take, List.length_drop]
  omega
/-- a walk with a body of any form -/
theorem walk_any {J : It} {n : Nat} {G0 : Hp} {Nx : Hp → Prop} {Bd : V → Hp → (Hp → Prop) → Prop} (Pv : Nat → Hp → Prop) (h0 : Pv 0 G0) (hgo : ∀ i H, i < n → Pv i H → J.go i H) (hst : ∀ H, Pv n H → J.stop n H)
    (hs : ∀ i x H H', i < n → Pv i H → J.yld i H x H' → Bd x H' (Pv (i + 1))) (hd : ∀ H, Pv n H → Nx H) :
    ∃ W : Nat → Nat → Hp → Prop, (∃ m, W 0 m G0) ∧ ∀ j k G, W j k G → (J.stop j G ∧ Nx G) ∨ (J.go j G ∧ ∃ Ny : Hp → Prop, (∀ G', Ny G' → ∃ k', k' < k ∧ W (j + 1) k' G') ∧ ∀ x G', J.yld j G x G' → Bd x G' Ny) := by
  refine ⟨fun i m G => m = n - i ∧ i ≤ n ∧ Pv i G, ⟨n, (Nat.sub_zero n).symm, Nat.zero_le _, h0⟩, ?_⟩
  rintro i m H ⟨rfl, hi, p⟩
  by_cases hlt : i < n
  · exact .inr ⟨hgo i H hlt p, Pv (i + 1), fun H' p' => ⟨n - (i + 1), by omega, rfl, hlt, p'⟩, fun x H' y => hs i x H H' hlt p y⟩
  · have e : i = n := by omega
    subst e
    exact .inl ⟨hst H p, hd H p⟩
theorem walk_tup {K : PySem.W.Frag} {a : Addr} {xs : List V} {G0 : Hp} {Nx : Hp → Prop} {Bd : V → Hp → (Hp → Prop) → Prop} (Pv : Nat → Hp → Prop) (h0 : Pv 0 G0) (hl : ∀ i H, Pv i H → SqT K H a xs)
    (hs : ∀ i x H, xs[i]? = some x → Pv i H → Bd x H (Pv (i + 1))) (hd : ∀ H, Pv xs.length H → Nx H) :
    ∃ W : Nat → Nat → Hp → Prop, (∃ m, W 0 m G0) ∧ ∀ j k G, W j k G → ((Itt K a).stop j G ∧ Nx G) ∨ ((Itt K a).go j G ∧ ∃ Ny : Hp → Prop, (∀ G', Ny G' → ∃ k', k' < k ∧ W (j + 1) k' G') ∧ ∀ x G', (Itt K a).yld j G x G' → Bd x G' Ny) :=
  walk_any (n := xs.length) Pv h0 (fun i H hi p => ⟨xs, xs[i], hl i H p, by simp [hi]⟩) (fun H p => ⟨xs, hl _ H p, Nat.le_refl _⟩) (fun i x H H' hi p y => by
    obtain ⟨e, y⟩ := y
    subst e
    exact hs i x _ (y xs (hl i _ p)) p) hd
theorem walk_list {K : PySem.W.Frag} {a : Addr} {xs : List V} {G0 : Hp} {Nx : Hp → Prop} {Bd : V → Hp → (Hp → Prop) → Prop} (Pv : Nat → Hp → Prop) (h0 : Pv 0 G0) (hl : ∀ i H, Pv i H → SqL K H a xs)
    (hs : ∀ i x H, xs[i]? = some x → Pv i H → Bd x H (Pv (i + 1))) (hd : ∀ H, Pv xs.length H → Nx H) :
    ∃ W : Nat → Nat → Hp → Prop, (∃ m, W 0 m G0) ∧ ∀ j k G, W j k G → ((Itl K a).stop j G ∧ Nx G) ∨ ((Itl K a).go j G ∧ ∃ Ny : Hp → Prop, (∀ G', Ny G' → ∃ k', k' < k ∧ W (j + 1) k' G') ∧ ∀ x G', (Itl K a).yld j G x G' → Bd x G' Ny) :=
  walk_any (n := xs.length) Pv h0 (fun i H hi p => ⟨xs, xs[i], hl i H p, by simp [hi]⟩) (fun H p => ⟨xs, hl _ H p, Nat.le_refl _⟩) (fun i x H H' hi p y => by
    obtain ⟨e, y⟩ := y
    subst e
    exact hs i x _ (y xs (hl i _ p)) p) hd
theorem mem_before {ns : List Int} (hp : ns.Pairwise (· < ·)) {i : Nat} {z y : Int} (hz : ns[i]? = some z) (hy : y ∈ ns) (hlt : y < z) : y ∈ ns.take i := by
  obtain ⟨j, hj, ej⟩ := List.mem_iff_getElem.mp hy
  obtain ⟨hi, ei⟩ := List.getElem?_eq_some_iff.mp hz
  by_cases q : j < i
  · rw [List.mem_take_iff_getElem]
    exact ⟨j, by omega, ej⟩
  · exfalso
    by_cases e : j = i
    · subst e
      omega
    · have := List.pairwise_iff_getElem.mp hp i j hi hj (by omega)
      omega
/-! ### lists of steps: cut, joined, twice -/
section
variable {K : PySem.W.Frag} {c : Int} {H : Hp} {l b : Addr} {ws zs : List V} {ss us : List Stp} {Q : VK}
theorem do_cut {lo hi : Option Int} (hl : H l = some (.lst ws)) (hs : Steps H ws ss) (ho : ∀ s ∈ ss, s.ok c)
    (k : ∀ p vs us H', H p = none → Same H H' → H' p = some (.lst vs) → Steps H' vs us → us.length ≤ ss.length → (∀ u ∈ us, u.ok c) → Q (.ref p) H') : rSlL K (.ref l) lo hi H Q :=
  ⟨l, ws, rfl, SqL.of hl, fun p hp => let ⟨us, h1, h2, h3⟩ := hs.cut lo hi; k p _ us _ hp (same_upd hp) upd_same (h1.same (same_upd hp)) h2 fun u hu => ho u (h3 u hu)⟩
theorem do_cat (ha : H l = some (.lst ws)) (hs : Steps H ws ss) (hb : H b = some (.lst zs)) (ht : Steps H zs us) (hn : ss.length + us.length ≤ 100)
    (k : ∀ p H', H p = none → Same H H' → H' p = some (.lst (ws ++ zs)) → Steps H' (ws ++ zs) (ss ++ us) → Q (.ref p) H') : rCat (.ref l) (.ref b) H Q :=
  ⟨l, b, ws, zs, rfl, rfl, ha, hb, by rw [hs.length, ht.length, sizeLine_eq]; omega, fun p hp => k p _ hp (same_upd hp) upd_same ((hs.append ht).same (same_upd hp))⟩
theorem do_twice (ha : H l = some (.lst ws)) (hs : Steps H ws ss) (hn : ss.length ≤ 50)
    (k : ∀ p H', Same H H' → H' p = some (.lst (ws ++ ws)) → Steps H' (ws ++ ws) (ss ++ ss) → Q (.ref p) H') : rRep (.ref l) (.int 2) H Q :=
  ⟨l, 2, ws, rfl, rfl, ha, by decide, by decide, by rw [hs.length, sizeLine_eq]; show ss.length * 2 ≤ _; omega, fun p hp => by
    have e : (List.replicate (2 : Int).toNat ws).flatten = ws ++ ws := by
      show ws ++ (ws ++ []) = ws ++ ws
      rw [List.append_nil]
    rw [e]
    exact k p _ (same_upd hp) upd_same ((hs.append hs).same (same_upd hp))⟩
end
theorem lay_ints : ∀ ns : List Int, PyData.canLayAll0 (ns.map PyData.int) = true ∧ PyData.depthAll (ns.map PyData.int) = 0
  | [] => by simp [PyData.canLayAll0, PyData.depthAll]
  | n :: ns => by
    obtain ⟨a, b⟩ := lay_ints ns
    simp [PyData.canLayAll0, PyData.depthAll, PyData.canLay0, PyData.depth, a, b]
theorem shaped_list (ns : List Int) : SeqAt.shaped (.list (ns.map PyData.int)) = true := by
  obtain ⟨a, b⟩ := lay_ints ns
  unfold SeqAt.shaped
  simp [PyData.canLay0, PyData.depth, a, b]
theorem eqv_nil (ns : List Int) : PyData.eqv (.list (ns.map PyData.int)) (.list []) = decide (ns = []) := by
  cases ns <;> simp [PyData.eqv, PyData.eqvAll]
theorem dp_ints {K : PySem.W.Frag} {H : Hp} : ∀ ns : List Int, DpAll K H (ns.map V.int) (ns.map PyData.int)
  | [] => .nil
  | n :: ns => .cons (.int n) (dp_ints ns)
/-- the first of the starts below n -/
def FirstB (c : Int) (a b : List Stp) (n : Nat) : Option Int → Prop
  | none => ∀ x, 0 ≤ x → x < (n : Int) → outF c a x = outF c b x
  | some x => 0 ≤ x ∧ x < (n : Int) ∧ outF c a x ≠ outF c b x ∧ ∀ y, 0 ≤ y → y < x → outF c a y = outF c b y
theorem firstB_no {c : Int} {a b : List Stp} {n : Nat} : ∀ {o : Option Int}, FirstB c a b n o → outF c a (n : Int) = outF c b (n : Int) → FirstB c a b (n + 1) o
  | none, h, e => fun x x0 x1 => by
    by_cases q : x = (n : Int)
    · rw [q]
      exact e
    · exact h x x0 (by omega)
  | some _, ⟨h1, h2, h3, h4⟩, _ => ⟨h1, by omega, h3, h4⟩
theorem firstB_yes {c : Int} {a b : List Stp} {n : Nat} : ∀ {ns : List Int}, FirstB c a b n ns.head? → outF c a (n : Int) ≠ outF c b (n : Int) → FirstB c a b (n + 1) (ns ++ [(n : Int)]).head?
  | [], h, e => ⟨by omega, by omega, e, fun y y0 y1 => h y y0 y1⟩
  | _ :: _, ⟨h1, h2, h3, h4⟩, _ => ⟨h1, by omega, h3, h4⟩
theorem firstB_end {c : Int} {a b : List Stp} (c0 : 0 ≤ c) : ∀ {o : Option Int}, FirstB c a b (c + 1).toNat o → FirstF c a b o
  | none, h => fun x x0 x1 => h x x0 (by omega)
  | some _, ⟨h1, h2, h3, h4⟩ => ⟨h1, by omega, h3, h4⟩
theorem first_swap {c : Int} {a b : List Stp} : ∀ {o : Option Int}, FirstF c a b o → FirstF c b a o
  | none, h => fun x x0 x1 => (h x x0 x1).symm
  | some _, ⟨h1, h2, h3, h4⟩ => ⟨h1, h2, fun e => h3 e.symm, fun y y0 y1 => (h4 y y0 y1).symm⟩
theorem first_same {c : Int} {a b : List Stp} {o o' : Option Int} (h : FirstF c a b o) (h' : FirstF c a b o') : o = o' := first_uniq h (first_swap h')
theorem scal_goal (o o' : Option Int) : scal (goalV o) (goalV o') = true := by
  cases o <;> cases o' <;> rfl
end Cc

namespace Cc
open PySem PySem.Spec PyProof.Rows L2
abbrev sAlike : Stmt := top 46
/-! _law_alike of values that say the same -/
/-- scalars -/
def Scal (v : V) : Prop := (∃ i, v = .int i) ∨ (∃ y, v = .str y) ∨ (∃ y, v = .bl y) ∨ v = .non
/-- what never changes is kept: tuples, what is locked -/
def Fix (H H' : Hp) : Prop := (∀ b us, H b = some (.tup us) → H' b = some (.tup us)) ∧ ∀ b o u, H b = some (.frz o u) → H' b = some (.frz o u)
theorem Fix.of {H H' : Hp} (s : Same H H') : Fix H H' := ⟨fun _ _ e => s _ _ e, fun _ _ _ e => s _ _ e⟩
theorem Fix.trans {H H1 H2 : Hp} (a : Fix H H1) (b : Fix H1 H2) : Fix H H2 := ⟨fun _ _ e => b.1 _ _ (a.1 _ _ e), fun _ _ _ e => b.2 _ _ _ (a.2 _ _ _ e)⟩
def TupK (K : PySem.W.Frag) (H : Hp) (p : Addr) (xs : List V) : Prop := ∀ H', Fix H H' → SqT K H' p xs
theorem TupK.of {K : PySem.W.Frag} {H : Hp} {p : Addr} {xs : List V} (h : H p = some (.tup xs)) : TupK K H p xs := fun H' k => SqT.of (k.1 _ _ h)
theorem TupK.fix {K : PySem.W.Frag} {H H1 : Hp} {p : Addr} {xs : List V} (h : TupK K H p xs) (s : Fix H H1) : TupK K H1 p xs := fun H' k => h H' (s.trans k)
theorem TupK.same {K : PySem.W.Frag} {H H1 : Hp} {p : Addr} {xs : List V} (h : TupK K H p xs) (s : Same H H1) : TupK K H1 p xs := h.fix (Fix.of s)
theorem TupK.lock {K : PySem.W.Frag} {H : Hp} {p : Addr} {xs : List V} (h : TupP H p xs) : TupK K H p xs := fun H' k => let ⟨o, d, e⟩ := h; TupP.sq ⟨o, d, k.2 _ _ _ e⟩
theorem TupK.at_ {K : PySem.W.Frag} {H : Hp} {p : Addr} {xs : List V} (h : TupK K H p xs) : SqT K H p xs := h H (Fix.of (Same.refl H))
/-- two values that say the same, down to a depth -/
def SmD (K : PySem.W.Frag) (H : Hp) : Nat → V → V → Prop
  | 0, v, w => w = v ∧ Scal v
  | n + 1, v, w => SmD K H n v w ∨ ∃ (p q : Addr) (xs ys : List V), v = .ref p ∧ w = .ref q ∧ xs.length ≤ 100000 ∧ Paired (SmD K H n) xs ys ∧ ((H p = some (.lst xs) ∧ H q = some (.lst ys)) ∨ (TupK K H p xs ∧ TupK K H q ys))
theorem paired_mono {R S : V → V → Prop} (m : ∀ v w, R v w → S v w) : ∀ {xs ys : List V}, Paired R xs ys → Paired S xs ys
  | _, _, .nil => .nil
  | _, _, .cons a r => .cons (m _ _ a) (paired_mono m r)
theorem paired_at {R : V → V → Prop} : ∀ {xs ys : List V} {i : Nat} {x y : V}, Paired R xs ys → xs[i]? = some x → ys[i]? = some y → R x y
  | _, _, 0, _, _, .cons a r, e1, e2 => by
    cases e1
    cases e2
    exact a
  | _, _, i + 1, _, _, .cons a r, e1, e2 => paired_at (i := i) r e1 e2
theorem SmD.same {K : PySem.W.Frag} {H H1 : Hp} (s : Same H H1) : ∀ {n : Nat} {v w : V}, SmD K H n v w → SmD K H1 n v w
  | 0, _, _, h => h
  | n + 1, _, _, .inl h => .inl (SmD.same s h)
  | n + 1, _, _, .inr ⟨p, q, xs, ys, e1, e2, hn, hP, h⟩ => .inr ⟨p, q, xs, ys, e1, e2, hn, paired_mono (fun _ _ z => SmD.same s z) hP, h.imp (fun z => ⟨s _ _ z.1, s _ _ z.2⟩) fun z => ⟨z.1.same s, z.2.same s⟩⟩
def spAlike (K : PySem.W.Frag) (n : Nat) : Sp := fun vs H Q _ => ∃ (a b : V), vs = [a, b] ∧ SmD K H n a b ∧ ∀ H', Same H H' → Q (.bl true) H'
def spAlikeL (K : PySem.W.Frag) (n : Nat) : Sp := fun vs H Q _ => ∃ (p q : Addr) (xs ys : List V), vs = [.ref p, .ref q] ∧ H p = some (.lst xs) ∧ H q = some (.lst ys) ∧ xs.length ≤ 100000 ∧ Paired (SmD K H n) xs ys ∧ ∀ H', Same H H' → Q (.bl true) H'
def spAlikeT (K : PySem.W.Frag) (n : Nat) : Sp := fun vs H Q _ => ∃ (p q : Addr) (xs ys : List V), vs = [.ref p, .ref q] ∧ TupK K H p xs ∧ TupK K H q ys ∧ xs.length ≤ 100000 ∧ Paired (SmD K H n) xs ys ∧ ∀ H', Same H H' → Q (.bl true) H'
abbrev nAlike : List Str := ["_law_found", "_law_due", "_law_k"]
def ttSameDL (K : PySem.W.Frag) (n : Nat) : TT := tNot (tB fun σ H Q => tCons (tOp (rIxL K) (tVar 0) (tVar 2)) (tCons (tOp (rIxL K) (tVar 1) (tVar 2)) tNil) σ H fun vs H1 => spAlike K n vs H1 Q E0)
def ttSameDT (K : PySem.W.Frag) (n : Nat) : TT := tNot (tB fun σ H Q => tCons (tOp (rIxT K) (tVar 0) (tVar 2)) (tCons (tOp (rIxT K) (tVar 1) (tVar 2)) tNil) σ H fun vs H1 => spAlike K n vs H1 Q E0)
section
variable {P : Program} {w : World} {K : PySem.W.Frag} {mg : Str → Option Value} {base : Heap}
theorem scAlike : FnScope nAlike ["_law_found", "_law_due"] (defScope sAlike) := ⟨rfl, rfl, rfl, by decide +kernel, rfl, by decide +kernel, by decide +kernel⟩
theorem kit_no {K : PySem.W.Frag} {t : Value} {a b : Value} (h1 : PySem.W.kitOne K t a = some false) (h2 : PySem.W.kitOne K t b = some false) : PySem.W.kitAny K t [a, b] = some false :=
  kitAny_cons h1 (fun _ => kitAny_cons h2 (fun _ => kitAny_nil) fun z => nomatch z) fun z => nomatch z
theorem kit_fst {K : PySem.W.Frag} {t : Value} {a b : Value} (h1 : PySem.W.kitOne K t a = some true) : PySem.W.kitAny K t [a, b] = some true := kitAny_cons h1 (fun z => nomatch z) fun _ => rfl
theorem kit_yes {K : PySem.W.Frag} {t : Value} {a b : Value} (h1 : PySem.W.kitOne K t a = some false) (h2 : PySem.W.kitOne K t b = some true) : PySem.W.kitAny K t [a, b] = some true :=
  kitAny_cons h1 (fun _ => kitAny_cons h2 (fun z => nomatch z) fun _ => rfl) fun z => nomatch z
theorem ok_alike0 {f : Addr} {fd : FuncData} (F : Fun K "_law_alike" "_law_alike" sAlike f fd) (B : Bt mg) : FnOk P w K mg base CX0 1 f fd ["_law_found", "_law_due"] (spAlike K 0) := by
  refine F.ok scAlike (fun vs H Q E h => ?_) (fun cdv A outer s H vs Q E hr h => ?_)
  · obtain ⟨a, b, rfl, _⟩ := h
    rfl
  · obtain ⟨a, b, rfl, ⟨rfl, ha⟩, k⟩ := h
    refine ⟨_, pss_cons (ps_if (pt_val (pe_callB call_isi (by rfl) B.isinstance (by decide +kernel) (pa_cons (pv 1) (pa_cons (pe_bltn (v := .ty "dict") (by rfl) B.dict (by decide +kernel) rfl) pa_nil)))) (pss_one ps_never) pss_nil)
      (pss_cons (ps_if (pt_val (pe_callB call_isiT (by rfl) B.isinstance (by decide +kernel) (pa_cons (pv 1) (pa_cons (pe_tup (pa_cons (pe_bltn (v := .ty "tuple") (by rfl) B.tuple (by decide +kernel) rfl) (pa_cons (pe_bltn (v := .ty "list") (by rfl) B.list (by decide +kernel) rfl) pa_nil))) pa_nil)))) (pss_cons ps_never (pss_cons ps_never (pss_one ps_never))) pss_nil)
      (pss_cons (ps_if (PW.pt (pw_or (pt_cmpR op_isN (pv 1) pe_non (nomark _)) (pw_or1 (pt_val (pe_callB call_isi (by rfl) B.isinstance (by decide +kernel) (pa_cons (pv 1) (pa_cons (pe_bltn (v := .ty "str") (by rfl) B.str (by decide +kernel) rfl) pa_nil)))))))
        (pss_one (ps_ret (pe_and (pe_cmpR op_eq (pv 0) (pv 1) (nomark _)) (pe_one (pe_cmpR op_eq (pe_callB call_isi (by rfl) B.isinstance (by decide +kernel) (pa_cons (pv 0) (pa_cons (pe_bltn (v := .ty "str") (by rfl) B.str (by decide +kernel) rfl) pa_nil))) (pe_callB call_isi (by rfl) B.isinstance (by decide +kernel) (pa_cons (pv 1) (pa_cons (pe_bltn (v := .ty "str") (by rfl) B.str (by decide +kernel) rfl) pa_nil))) (nomark _)))))) pss_nil)
      (pss_one (ps_ret (pe_and (pe_callB call_isi (by rfl) B.isinstance (by decide +kernel) (pa_cons (pv 0) (pa_cons (pe_bltn (v := .ty "int") (by rfl) B.int (by decide +kernel) rfl) pa_nil))) (pe_and (pe_cmpR op_eq (pe_callB call_isi (by rfl) B.isinstance (by decide +kernel) (pa_cons (pv 0) (pa_cons (pe_bltn (v := .ty "bool") (by rfl) B.bool (by decide +kernel) rfl) pa_nil))) (pe_callB call_isi (by rfl) B.isinstance (by decide +kernel) (pa_cons (pv 1) (pa_cons (pe_bltn (v := .ty "bool") (by rfl) B.bool (by decide +kernel) rfl) pa_nil))) (nomark _)) (pe_one (pe_cmpR op_eq (pv 0) (pv 1) (nomark _))))))))), ?_⟩
    rcases ha with ⟨i, rfl⟩ | ⟨y, rfl⟩ | ⟨y, rfl⟩ | rfl
    · refine ⟨_, rfl, _, _, _, _, false, rfl, .ty "dict", .base (.int i), kit_ty (by decide +kernel), false, rfl, iteF ?_⟩
      refine ⟨_, rfl, by show 2 ≤ sizeLine; decide, fun t ht => ?_⟩
      refine ⟨_, t, _, _, _, false, rfl, upd_same, .cons (.ty "tuple") (.cons (.ty "list") .nil), .base (.int i), kit_no (kit_ty (by decide +kernel)) (kit_ty (by decide +kernel)), false, rfl, iteF ?_⟩
      refine ⟨_, rfl, rfl, _, rfl, ifF (by simp) ⟨_, rfl, _, _, _, _, false, rfl, .ty "str", .base (.int i), kit_ty (by decide +kernel), false, rfl, iteF ?_⟩⟩
      refine ⟨_, rfl, _, _, _, _, true, rfl, .ty "int", .base (.int i), kit_ty (by decide +kernel), true, rfl, iteT ?_⟩
      refine ⟨_, rfl, _, _, _, _, false, rfl, .ty "bool", .base (.int i), kit_ty (by decide +kernel), _, rfl, _, _, _, _, false, rfl, .ty "bool", .base (.int i), kit_ty (by decide +kernel), rfl, true, rfl, iteT ?_⟩
      refine ⟨_, rfl, _, rfl, rfl, ?_⟩
      rw [decide_eq_true (show V.int i = V.int i from rfl)]
      exact k _ (same_upd ht)
    · refine ⟨_, rfl, _, _, _, _, false, rfl, .ty "dict", .base (.str y), kit_ty (by decide +kernel), false, rfl, iteF ?_⟩
      refine ⟨_, rfl, by show 2 ≤ sizeLine; decide, fun t ht => ?_⟩
      refine ⟨_, t, _, _, _, false, rfl, upd_same, .cons (.ty "tuple") (.cons (.ty "list") .nil), .base (.str y), kit_no (kit_ty (by decide +kernel)) (kit_ty (by decide +kernel)), false, rfl, iteF ?_⟩
      refine ⟨_, rfl, rfl, _, rfl, ifF (by simp) ⟨_, rfl, _, _, _, _, true, rfl, .ty "str", .base (.str y), kit_ty (by decide +kernel), true, rfl, iteT ?_⟩⟩
      refine ⟨_, rfl, _, rfl, rfl, true, by rw [decide_eq_true (show V.str y = V.str y from rfl)], iteT ?_⟩
      refine ⟨_, rfl, _, _, _, _, true, rfl, .ty "str", .base (.str y), kit_ty (by decide +kernel), _, rfl, _, _, _, _, true, rfl, .ty "str", .base (.str y), kit_ty (by decide +kernel), rfl, ?_⟩
      exact k _ (same_upd ht)
    · refine ⟨_, rfl, _, _, _, _, false, rfl, .ty "dict", .base (.bl y), kit_ty (by decide +kernel), false, rfl, iteF ?_⟩
      refine ⟨_, rfl, by show 2 ≤ sizeLine; decide, fun t ht => ?_⟩
      refine ⟨_, t, _, _, _, false, rfl, upd_same, .cons (.ty "tuple") (.cons (.ty "list") .nil), .base (.bl y), kit_no (kit_ty (by decide +kernel)) (kit_ty (by decide +kernel)), false, rfl, iteF ?_⟩
      refine ⟨_, rfl, rfl, _, rfl, ifF (by simp) ⟨_, rfl, _, _, _, _, false, rfl, .ty "str", .base (.bl y), kit_ty (by decide +kernel), false, rfl, iteF ?_⟩⟩
      refine ⟨_, rfl, _, _, _, _, true, rfl, .ty "int", .base (.bl y), kit_ty (by decide +kernel), true, rfl, iteT ?_⟩
      refine ⟨_, rfl, _, _, _, _, true, rfl, .ty "bool", .base (.bl y), kit_ty (by decide +kernel), _, rfl, _, _, _, _, true, rfl, .ty "bool", .base (.bl y), kit_ty (by decide +kernel), rfl, true, rfl, iteT ?_⟩
      refine ⟨_, rfl, _, rfl, rfl, ?_⟩
      rw [decide_eq_true (show V.bl y = V.bl y from rfl)]
      exact k _ (same_upd ht)
    · refine ⟨_, rfl, _, _, _, _, false, rfl, .ty "dict", .base .non, kit_ty (by decide +kernel), false, rfl, iteF ?_⟩
      refine ⟨_, rfl, by show 2 ≤ sizeLine; decide, fun t ht => ?_⟩
      refine ⟨_, t, _, _, _, false, rfl, upd_same, .cons (.ty "tuple") (.cons (.ty "list") .nil), .base .non, kit_no (kit_ty (by decide +kernel)) (kit_ty (by decide +kernel)), false, rfl, iteF ?_⟩
      refine ⟨_, rfl, rfl, _, rfl, ifT (by simp) (iteT ?_)⟩
      refine ⟨_, rfl, _, rfl, rfl, true, by rw [decide_eq_true (show V.non = V.non from rfl)], iteT ?_⟩
      refine ⟨_, rfl, _, _, _, _, false, rfl, .ty "str", .base .non, kit_ty (by decide +kernel), _, rfl, _, _, _, _, false, rfl, .ty "str", .base .non, kit_ty (by decide +kernel), rfl, ?_⟩
      exact k _ (same_upd ht)
theorem ok_alikel {f : Addr} {fd : FuncData} (F : Fun K "_law_alike" "_law_alike" sAlike f fd) (B : Bt mg) {n : Nat} (DI : Dn P w K mg base (n + 1) "_law_alike" f (spAlike K n)) : FnOk P w K mg base CX0 (n + 1 + 1) f fd ["_law_found", "_law_due"] (spAlikeL K n) := by
  refine F.ok scAlike (fun vs H Q E h => ?_) (fun cdv A outer s H vs Q E hr h => ?_)
  · obtain ⟨p, q, xs, ys, rfl, _⟩ := h
    rfl
  · obtain ⟨p, q, xs, ys, rfl, hp, hq, hn, hP, k⟩ := h
    have hlen : xs.length = ys.length := Paired.length hP
    refine ⟨_, pss_cons (ps_if (pt_val (pe_callB call_isi (by rfl) B.isinstance (by decide +kernel) (pa_cons (pv 1) (pa_cons (pe_bltn (v := .ty "dict") (by rfl) B.dict (by decide +kernel) rfl) pa_nil)))) (pss_one ps_never) pss_nil)
      (pss_cons (ps_if (pt_val (pe_callB call_isiT (by rfl) B.isinstance (by decide +kernel) (pa_cons (pv 1) (pa_cons (pe_tup (pa_cons (pe_bltn (v := .ty "tuple") (by rfl) B.tuple (by decide +kernel) rfl) (pa_cons (pe_bltn (v := .ty "list") (by rfl) B.list (by decide +kernel) rfl) pa_nil))) pa_nil))))
        (pss_cons (ps_if (PW.pt (pw_or (pt_not (pt_val (pe_callB call_isiT (by rfl) B.isinstance (by decide +kernel) (pa_cons (pv 0) (pa_cons (pe_tup (pa_cons (pe_bltn (v := .ty "tuple") (by rfl) B.tuple (by decide +kernel) rfl) (pa_cons (pe_bltn (v := .ty "list") (by rfl) B.list (by decide +kernel) rfl) pa_nil))) pa_nil))))) (pw_or1 (pt_cmpR op_ne (pe_callB call_isi (by rfl) B.isinstance (by decide +kernel) (pa_cons (pv 0) (pa_cons (pe_bltn (v := .ty "list") (by rfl) B.list (by decide +kernel) rfl) pa_nil))) (pe_callB call_isi (by rfl) B.isinstance (by decide +kernel) (pa_cons (pv 1) (pa_cons (pe_bltn (v := .ty "list") (by rfl) B.list (by decide +kernel) rfl) pa_nil))) (nomark _))))) (pss_one ps_never) pss_nil)
        (pss_cons (ps_if (pt_cmpR op_ne (pe_callB call_len_seq (by rfl) B.len PySem.boot_len (pa_cons (pv 0) pa_nil)) (pe_callB call_len_seq (by rfl) B.len PySem.boot_len (pa_cons (pv 1) pa_nil)) (nomark _)) (pss_one ps_never) pss_nil)
        (pss_one (ps_ret (pe_cmpR (op_eqD hr.units) (pe_lc (own := [("_law_k", 2)]) (g := gName 2) (tt := ttSameDL K n) (te := tVar 2) rfl scAlike.nd (pi_range1 rfl B.range (pa_cons (pe_callB call_len_seq (by rfl) B.len PySem.boot_len (pa_cons (pv 1) pa_nil)) pa_nil)) (blkOk_by (N := nAlike) (sc := defScope sAlike) (by decide +kernel))
            (fun _ _ _ _ _ => pg_name (i := 2) scAlike.nd rfl (.inl rfl)) (fun _ _ _ _ _ => by exact (pts_one (pt_not (pt_val (pe_callR DI.ok hr rfl DI.at_ DI.kp pass0 (pa_cons (pe_ix ix_list (pv 0) (pv 2) (fun _ _ => rfl)) (pa_cons (pe_ix ix_list (pv 1) (pv 2) (fun _ _ => rfl)) pa_nil))))))) (fun _ _ _ _ _ => pv 2)) (pe_lst pa_nil) (nomark _)))))) pss_nil)
      (pss_cons ps_never (pss_one ps_never))), ?_⟩
    refine ⟨_, rfl, _, _, _, _, false, rfl, .ty "dict", .base (.lst hq), kit_ty (by decide +kernel), false, rfl, iteF ?_⟩
    refine ⟨_, rfl, by show 2 ≤ sizeLine; decide, fun t ht => ?_⟩
    have s1 : Same H (upd H t (.tup [.ty "tuple", .ty "list"])) := same_upd ht
    refine ⟨_, t, _, _, _, true, rfl, upd_same, .cons (.ty "tuple") (.cons (.ty "list") .nil), .base (.lst (s1 _ _ hq)), kit_yes (kit_ty (by decide +kernel)) (kit_ty (by decide +kernel)), true, rfl, iteT ?_⟩
    refine ⟨_, rfl, by show 2 ≤ sizeLine; decide, fun t2 ht2 => ?_⟩
    have s2 := s1.trans (same_upd (o := .tup [.ty "tuple", .ty "list"]) ht2)
    refine ⟨_, t2, _, _, _, true, rfl, upd_same, .cons (.ty "tuple") (.cons (.ty "list") .nil), .base (.lst (s2 _ _ hp)), kit_yes (kit_ty (by decide +kernel)) (kit_ty (by decide +kernel)), true, rfl, ?_⟩
    refine ⟨_, rfl, _, _, _, _, true, rfl, .ty "list", .base (.lst (s2 _ _ hp)), kit_ty (by decide +kernel), _, rfl, _, _, _, _, true, rfl, .ty "list", .base (.lst (s2 _ _ hq)), kit_ty (by decide +kernel), rfl, _, rfl, iteF ?_⟩
    refine ⟨_, rfl, p, _, rfl, .inl (SqL.of (s2 _ _ hp)), _, rfl, q, _, rfl, .inl (SqL.of (s2 _ _ hq)), rfl, _, rfl, ifF (by rw [hlen]; simp) ?_⟩
    refine ⟨_, rfl, q, _, rfl, .inl (SqL.of (s2 _ _ hq)), _, rfl, by omega, by omega, fun D hD => ?_⟩
    refine lc_range (lo := 0) (n := (((ys.length : Nat) : Int)).toNat) (fun i H' => Same H H' ∧ H' D = some (.lst [])) ⟨s2.trans (same_upd hD), upd_same⟩ ?_ ?_
    · rintro i H3 hi ⟨s3, e3⟩
      have hi' : i < ys.length := by omega
      obtain ⟨x, ex⟩ : ∃ x, xs[i]? = some x := ⟨_, List.getElem?_eq_getElem (by omega)⟩
      obtain ⟨y, ey⟩ : ∃ y, ys[i]? = some y := ⟨_, List.getElem?_eq_getElem hi'⟩
      have hxy := paired_at hP ex ey
      have ei : (0 : Int) + (i : Int) = ((i : Nat) : Int) := Int.zero_add _
      refine ⟨rfl, _, rfl, _, rfl, p, _, _, _, rfl, rfl, SqL.of (s3 _ _ hp), at_of (j := i) ei ex, _, rfl, _, rfl, q, _, _, _, rfl, rfl, SqL.of (s3 _ _ hq), at_of (j := i) ei ey, x, y, rfl, hxy.same s3, fun H4 s4 => ⟨true, rfl, ifF rfl ?_⟩⟩
      exact ⟨s3.trans s4, s4 _ _ e3⟩
    · rintro H3 ⟨s3, e3⟩
      refine ⟨by show 0 ≤ sizeLine; decide, fun D2 hD2 => ?_⟩
      have s4 := s3.trans (same_upd (o := .lst []) hD2)
      refine ⟨.list (([] : List Int).map PyData.int), .list (([] : List Int).map PyData.int), .lst (SqL.of ((same_upd hD2) _ _ e3)) (dp_ints []), .lst (SqL.of upd_same) (dp_ints []), shaped_list _, shaped_list _, ?_⟩
      rw [eqv_selfs]
      exact k _ s4
theorem ok_aliket {f : Addr} {fd : FuncData} (F : Fun K "_law_alike" "_law_alike" sAlike f fd) (B : Bt mg) {n : Nat} (DI : Dn P w K mg base (n + 1) "_law_alike" f (spAlike K n)) : FnOk P w K mg base CX0 (n + 1 + 1) f fd ["_law_found", "_law_due"] (spAlikeT K n) := by
  refine F.ok scAlike (fun vs H Q E h => ?_) (fun cdv A outer s H vs Q E hr h => ?_)
  · obtain ⟨p, q, xs, ys, rfl, _⟩ := h
    rfl
  · obtain ⟨p, q, xs, ys, rfl, hp, hq, hn, hP, k⟩ := h
    have hlen : xs.length = ys.length := Paired.length hP
    have gp : ∀ {H'}, Same H H' → SqT K H' p xs := fun s => hp _ (Fix.of s)
    have gq : ∀ {H'}, Same H H' → SqT K H' q ys := fun s => hq _ (Fix.of s)
    refine ⟨_, pss_cons (ps_if (pt_val (pe_callB call_isi (by rfl) B.isinstance (by decide +kernel) (pa_cons (pv 1) (pa_cons (pe_bltn (v := .ty "dict") (by rfl) B.dict (by decide +kernel) rfl) pa_nil)))) (pss_one ps_never) pss_nil)
      (pss_cons (ps_if (pt_val (pe_callB call_isiT (by rfl) B.isinstance (by decide +kernel) (pa_cons (pv 1) (pa_cons (pe_tup (pa_cons (pe_bltn (v := .ty "tuple") (by rfl) B.tuple (by decide +kernel) rfl) (pa_cons (pe_bltn (v := .ty "list") (by rfl) B.list (by decide +kernel) rfl) pa_nil))) pa_nil))))
        (pss_cons (ps_if (PW.pt (pw_or (pt_not (pt_val (pe_callB call_isiT (by rfl) B.isinstance (by decide +kernel) (pa_cons (pv 0) (pa_cons (pe_tup (pa_cons (pe_bltn (v := .ty "tuple") (by rfl) B.tuple (by decide +kernel) rfl) (pa_cons (pe_bltn (v := .ty "list") (by rfl) B.list (by decide +kernel) rfl) pa_nil))) pa_nil))))) (pw_or1 (pt_cmpR op_ne (pe_callB call_isi (by rfl) B.isinstance (by decide +kernel) (pa_cons (pv 0) (pa_cons (pe_bltn (v := .ty "list") (by rfl) B.list (by decide +kernel) rfl) pa_nil))) (pe_callB call_isi (by rfl) B.isinstance (by decide +kernel) (pa_cons (pv 1) (pa_cons (pe_bltn (v := .ty "list") (by rfl) B.list (by decide +kernel) rfl) pa_nil))) (nomark _))))) (pss_one ps_never) pss_nil)
        (pss_cons (ps_if (pt_cmpR op_ne (pe_callB call_len_seq (by rfl) B.len PySem.boot_len (pa_cons (pv 0) pa_nil)) (pe_callB call_len_seq (by rfl) B.len PySem.boot_len (pa_cons (pv 1) pa_nil)) (nomark _)) (pss_one ps_never) pss_nil)
        (pss_one (ps_ret (pe_cmpR (op_eqD hr.units) (pe_lc (own := [("_law_k", 2)]) (g := gName 2) (tt := ttSameDT K n) (te := tVar 2) rfl scAlike.nd (pi_range1 rfl B.range (pa_cons (pe_callB call_len_seq (by rfl) B.len PySem.boot_len (pa_cons (pv 1) pa_nil)) pa_nil)) (blkOk_by (N := nAlike) (sc := defScope sAlike) (by decide +kernel))
            (fun _ _ _ _ _ => pg_name (i := 2) scAlike.nd rfl (.inl rfl)) (fun _ _ _ _ _ => by exact (pts_one (pt_not (pt_val (pe_callR DI.ok hr rfl DI.at_ DI.kp pass0 (pa_cons (pe_ix ix_tup (pv 0) (pv 2) (fun _ _ => rfl)) (pa_cons (pe_ix ix_tup (pv 1) (pv 2) (fun _ _ => rfl)) pa_nil))))))) (fun _ _ _ _ _ => pv 2)) (pe_lst pa_nil) (nomark _)))))) pss_nil)
      (pss_cons ps_never (pss_one ps_never))), ?_⟩
    refine ⟨_, rfl, _, _, _, _, false, rfl, .ty "dict", sqT_ty (gq (Same.refl H)), kit_ty (by decide +kernel), false, rfl, iteF ?_⟩
    refine ⟨_, rfl, by show 2 ≤ sizeLine; decide, fun t ht => ?_⟩
    have s1 : Same H (upd H t (.tup [.ty "tuple", .ty "list"])) := same_upd ht
    refine ⟨_, t, _, _, _, true, rfl, upd_same, .cons (.ty "tuple") (.cons (.ty "list") .nil), sqT_ty (gq s1), kit_fst (kit_ty (by decide +kernel)), true, rfl, iteT ?_⟩
    refine ⟨_, rfl, by show 2 ≤ sizeLine; decide, fun t2 ht2 => ?_⟩
    have s2 := s1.trans (same_upd (o := .tup [.ty "tuple", .ty "list"]) ht2)
    refine ⟨_, t2, _, _, _, true, rfl, upd_same, .cons (.ty "tuple") (.cons (.ty "list") .nil), sqT_ty (gp s2), kit_fst (kit_ty (by decide +kernel)), true, rfl, ?_⟩
    refine ⟨_, rfl, _, _, _, _, false, rfl, .ty "list", sqT_ty (gp s2), kit_ty (by decide +kernel), _, rfl, _, _, _, _, false, rfl, .ty "list", sqT_ty (gq s2), kit_ty (by decide +kernel), rfl, _, rfl, iteF ?_⟩
    refine ⟨_, rfl, p, _, rfl, .inr (gp s2), _, rfl, q, _, rfl, .inr (gq s2), rfl, _, rfl, ifF (by rw [hlen]; simp) ?_⟩
    refine ⟨_, rfl, q, _, rfl, .inr (gq s2), _, rfl, by omega, by omega, fun D hD => ?_⟩
    refine lc_range (lo := 0) (n := (((ys.length : Nat) : Int)).toNat) (fun i H' => Same H H' ∧ H' D = some (.lst [])) ⟨s2.trans (same_upd hD), upd_same⟩ ?_ ?_
    · rintro i' H3 hi ⟨s3, e3⟩
      have ei : (0 : Int) + (i' : Int) = ((i' : Nat) : Int) := Int.zero_add _
      obtain ⟨x, ex⟩ : ∃ x, xs[i']? = some x := ⟨_, List.getElem?_eq_getElem (by omega)⟩
      obtain ⟨y, ey⟩ : ∃ y, ys[i']? = some y := ⟨_, List.getElem?_eq_getElem (by omega)⟩
      have hxy := paired_at hP ex ey
      refine ⟨rfl, _, rfl, _, rfl, p, _, _, _, rfl, rfl, gp s3, at_of (j := i') ei ex, _, rfl, _, rfl, q, _, _, _, rfl, rfl, gq s3, at_of (j := i') ei ey, x, y, rfl, hxy.same s3, fun H4 s4 => ⟨true, rfl, ifF rfl ?_⟩⟩
      exact ⟨s3.trans s4, s4 _ _ e3⟩
    · rintro H3 ⟨s3, e3⟩
      refine ⟨by show 0 ≤ sizeLine; decide, fun D2 hD2 => ?_⟩
      have s4 := s3.trans (same_upd (o := .lst []) hD2)
      refine ⟨.list (([] : List Int).map PyData.int), .list (([] : List Int).map PyData.int), .lst (SqL.of ((same_upd hD2) _ _ e3)) (dp_ints []), .lst (SqL.of upd_same) (dp_ints []), shaped_list _, shaped_list _, ?_⟩
      rw [eqv_selfs]
      exact k _ s4
theorem ok_alikeD {f : Addr} {fd : FuncData} (F : Fun K "_law_alike" "_law_alike" sAlike f fd) (B : Bt mg) (at_ : mg "_law_alike" = some (.ref f)) (kp : PySem.W.keepIn K (.ref f) = true) (hb : Binds K fd ["_law_found", "_law_due"] []) : ∀ n : Nat, FnOk P w K mg base CX0 (n + 1) f fd ["_law_found", "_law_due"] (spAlike K n)
  | 0 => ok_alike0 F B
  | n + 1 => by
    have A := ok_alikeD F B at_ kp hb n
    have D : Dn P w K mg base (n + 1) "_law_alike" f (spAlike K n) := ⟨at_, kp, (A.raw hb .nil).imp fun vs H Q E h => by rw [List.append_nil]; exact h⟩
    have L := ok_alikel F B D
    have T := ok_aliket F B D
    refine ⟨fun vs H Q E h => ?_, fun A' outer s H args us vs Q E hr e0 hbd r h => ?_⟩
    · obtain ⟨a, b, rfl, _⟩ := h
      rfl
    · obtain ⟨a, b, e, h, k⟩ := h
      rcases h with h | ⟨p, q, xs, ys, rfl, rfl, hn, hP, ⟨h1, h2⟩ | ⟨h1, h2⟩⟩
      · exact (A.mono (Nat.le_succ _)).run A' outer s H args us vs Q E hr e0 hbd r ⟨a, b, e, h, k⟩
      · exact L.run A' outer s H args us vs Q E hr e0 hbd r ⟨p, q, xs, ys, e, h1, h2, hn, hP, k⟩
      · exact T.run A' outer s H args us vs Q E hr e0 hbd r ⟨p, q, xs, ys, e, h1, h2, hn, hP, k⟩
end
end Cc

/-! Own rule: a list from its end to its beginning, xs[::-1]. -/
namespace Cc
open PySem PySem.Spec PyProof.Rows L2
def tRev (K : PySem.W.Frag) (te : TE) : TE := fun σ H Q => te σ H fun x H1 => ∃ (a : Addr) (xs : List V), x = .ref a ∧ SqL K H1 a xs ∧ ∀ p, H1 p = none → Q (.ref p) (upd H1 p (.lst xs.reverse))
theorem pe_rev {X : Cx} {e : Expr} {te : TE} {pos p2 pc pu : Pos} (he : PE X e te) : PE X (.Subscript e (.Slice none none (some (.UnaryOp .USub (.Constant (.int 1) 0 pc) pu)) p2) pos) (tRev X.K te) := by
  refine ⟨fun pins s σ H Q I h => ?_⟩
  refine Subscript_ (thn (he.run pins s σ H _ I h) fun v s1 ⟨x, H1, I1, r1, a, xs, ex, hx, q1⟩ => ?_)
  subst ex
  have st : PO X (some (Expr.UnaryOp .USub (.Constant (.int 1) 0 pc) pu)) (tPart (tUn (rU fun i => .int (-i)) (tC (.int 1)))) := po_some (pe_un un_neg pe_int)
  refine wpAny_Slice (thn (po_none.run pins s1 σ H1 (fun l H2 => l = none ∧ H2 = H1) I1 ⟨rfl, rfl⟩) fun vl s2 ⟨l, H2, I2, pl, el, eH⟩ => ?_)
  subst el
  subst eH
  refine thn (po_none.run pins s2 σ H2 (fun l H3 => l = none ∧ H3 = H2) I2 ⟨rfl, rfl⟩) fun vu s3 ⟨u, H3, I3, pu', eu, eH⟩ => ?_
  subst eu
  subst eH
  refine thn (st.run pins s3 σ H3 (fun l H4 => l = some (-1) ∧ H4 = H3) I3 ⟨1, rfl, -1, rfl, rfl, rfl⟩) fun vk s4 ⟨k, H4, I4, pk, ek, eH⟩ => ?_
  subst ek
  subst eH
  have I5 : Inv X pins σ H4 { s4 with heap := s4.heap.push { cls := .type "slice", data := .fields #[vl, vu, vk] } } := I4.kept (t' := s4.toks) fun b ob q => Heap.get?_push_of_some _ q
  cases r1
  obtain ⟨its, r, ht, hz⟩ := I5.list hx; have hlen := r.length
  show wpAny (model X.prog X.w) X.A (subscriptTail e (.Slice none none (some (.UnaryOp .USub (.Constant (.int 1) 0 pc) pu)) p2) (.ref a) (.ref s4.heap.objs.size)) (EP X pins σ Q) X.xe { s4 with heap := s4.heap.push { cls := .type "slice", data := .fields #[vl, vu, vk] } }
  refine tail_any (ops := [.ref a, .ref s4.heap.objs.size]) ht.isList.typeIs slot_list_getitem.lookup ?_ (by with_unfolding_all rfl)
  refine wpAny_getItem_list_slice ht.isList (Heap.IsSliceOf.new ..) pl pu' pk (by simp) ?_ (by rw [List.size_toArray] <;> omega)
  rw [PySem.W.krv_pick]
  refine ⟨.ref _, _, I5.laid (t' := s4.toks) (o := .lst xs.reverse) (fun b ob q => Heap.get?_push_of_some _ q) (Nat.le_refl _) ?_, rfl, q1 _ (I5.hok.fresh (Nat.le_refl _))⟩
  refine ⟨by rw [List.length_reverse]; omega, its.toArray.toList.reverse, 0, by simpa using r.reverse, Heap.get?_push_size _ rfl⟩
/-- o.m() by a positional promise -/
theorem pe_methR0 {X : Cx} {CX : CXT} {k : Nat} {C f : Addr} {m : Str} {sp : Sp} {E : XK} {o : Expr} {ta : TE} {apos pos : Pos} {pl : Sem Bool} (he : PE X o ta) (c : Cls X.K C) (hm : Meth X.K C m f)
    (F : FnR X.prog X.w X.K X.mg X.base CX k f sp) (hr : Room k X.A) (hx : Passes CX X E) (ht : eval (.Call (.Attribute o m apos) [] [] pos) X.env = (do
      let ov ← eval o X.env
      standAt apos.atName
      let (f, first) ← holding [ov] (getMethod ov m pl); callWith pos f first (backTo pos (starEach [] X.env)) (backToKw pos (keywordEach [] X.env))) := by rfl) :
    PE X (.Call (.Attribute o m apos) [] [] pos) (tMethR C m sp E ta tNil) := by
  refine ⟨fun pins s σ H Q I h => PySem.W.methodCall_KW (pl := pl) (thn (he.run pins s σ H _ I h) fun u s1 ⟨x, H1, I1, rx, a, dx, fs, ex, ea, l, q⟩ => ?_) ht⟩
  subst ex
  obtain rfl : u = Value.ref a := rx
  exact getmeth_ok I1 ea c hm l (PySem.W.callWith_K0 (first := [.ref a]) I1.kIn hm.kp (wpAny_call (run_fnR (us := [.ref a]) (vs := [.ref a]) F hr hx I1 (.cons rfl .nil) q)))
end Cc

/-! isinstance of a caught error that bears a field. -/
namespace Cc
open PySem PySem.Spec PySem.Calls PyProof.Rows L2
open PySem.W (findIn specialIn takesIn subIn hasDictIn mroIn clsIn kitOne)
section
variable {prog : Program} {w : World} {A : Around} {E : Value → Shared → Prop} {K : PySem.W.Frag} {x D : Addr} {ox od : Obj}
/-- what its class is, asked of the error -/
theorem err_class {s : Shared} {Q : Option Value → Shared → Prop} (C : ExcC K D) (X : K.In s.heap) (I : PySem.W.InstAt s.heap x ox D (some od)) (h : Q (some (.ref D)) { s with toks := s.toks + 1 }) : wpAny (model prog w) A (getAttr? (.ref x) "__class__") Q E s := by
  have hc : (clsIn K D).isSome = true := let ⟨_, e, _⟩ := PySem.W.any_some C.hd; by rw [e]; rfl
  have hf := PySem.W.findObj_data (od := od) hc C.ha C.hn C.ht
  obtain ⟨hp, g, d, t, os⟩ := s
  have ty := I.type (M := model prog w)
  have at1 := PySem.W.looks_findIn (M := model prog w) X C.hg
  have at2 := PySem.W.looks_findIn (M := model prog w) X C.hk
  have at3 := PySem.W.looks_find (M := model prog w) X I hf
  have isE : PySem.W.Looks (model prog w) hp (isInstance (.ref x) (.type "BaseException")) true := ty.andThen (PySem.W.looks_subIn X C.hs)
  have no : ¬ (onTheHeap (Value.ref D) && Value.builtin "BaseException.__getattribute__" == Value.builtin "object.__getattribute__") = true := by rw [show (Value.builtin "BaseException.__getattribute__" == Value.builtin "object.__getattribute__") = false by decide +kernel]; simp
  unfold getAttr? getAttrBy? getAttrBy; refine wpAny_bind (wpAny_mkText (wpAny_bind (wpAny_attempt (wpAny_holding (wpAny_bind (ty.at (wpAny_bind (at1.at ?_))))))))
  show wpAny _ _ (if (onTheHeap (Value.ref D) && Value.builtin "BaseException.__getattribute__" == Value.builtin "object.__getattribute__") = true then _ else _) _ _ _; rw [if_neg no]
  unfold getAttrByItsOwn hookBefore; refine wpAny_bind ?_; rw [if_pos (show onTheHeap (Value.ref D) = true from rfl)]
  refine at2.at (wpAny_bind (wpAny_attempt (wpAny_holding ?_)))
  unfold callGetattribute; rw [show (false && onTheHeap (Value.builtin "BaseException.__getattribute__")) = false from rfl, if_neg Bool.false_ne_true]
  unfold boundAndCalled; rw [PySem.F.excAttr_ValueError.ga.bind (.ref x)]; refine wpAny_bind (wpAny_pure ?_)
  show wpAny _ _ (call (.builtin "BaseException.__getattribute__") [.ref x, .str "__class__" t]) _ _ _; refine wpAny_call (codeAny_call_builtin PySem.F.excAttr_ValueError.ga.plain PySem.F.entry_bexc_ga (@PySem.W.check_slot (model prog w) _ _ ⟨hp, g, d, t + 1, os⟩ "BaseException.__getattribute__" "BaseException" "__getattribute__" (.ref x) [.str "__class__" t] [] _ (by decide +kernel) (by decide +kernel) isE (PySem.F.args_bexc_ga (.ref x) (.str "__class__" t)) ?_))
  unfold Builtin.«object.__getattribute__»; refine wpAny_bind (wpAny_of_eq (a := ((Value.ref x : Value), [Value.str "__class__" t])) (by first | rfl | (simp only [slotArgs]; rfl)) (wpAny_bind (wpAny_pure (wpAny_bind (ty.at (wpAny_bind (at3.at ?_)))))))
  show wpAny _ _ (holding [Value.builtin "object.__class__"] (call (.builtin "getset_descriptor.__get__") [.builtin "object.__class__", .ref x, .ref D]) >>= ret) _ _ _; refine wpAny_bind (wpAny_holding (wpAny_call (PySem.W.class_get (s := ⟨hp, g, d, t + 1, os⟩) (ox := ox) (od := some od) X I C.hm (wpAny_pure ?_))))
  show wpAny _ _ (handedOut (.ref D)) _ _ _; rw [PySem.W.handedOut_of (v := .ref D) rfl]
  first | exact wpAny_pure (wpAny_pure h) | exact wpAny_pure h | exact wpAny_pure (wpAny_bind (wpAny_pure (wpAny_pure h)))
theorem cls_self (hd : hasDictIn K D = true) (t : PySem.W.typeIn K (.ref D) = some (.type "type")) (h : subIn K (.ref D) (.ref D) = some true) : PySem.W.kitCls K (.ref D) (.ref D) = some true := by
  have i2 : (clsIn K D).isSome = true := let ⟨_, e, _⟩ := PySem.W.any_some hd; by rw [e]; rfl
  unfold PySem.W.kitCls
  simp only [i2, t, h]
  rfl
theorem err_kit (C : ExcC K D) (t : PySem.W.typeIn K (.ref D) = some (.type "type")) (hs : subIn K (.ref D) (.ref D) = some true) : PySem.W.KitX K (.ref x) (.ref D) (fun h => PySem.W.InstAt h x ox D (some od)) where
  ty := fun _ _ _ I => I.type
  it := fun _ _ X _ => (PySem.W.kit_cls X (cls_self C.hd t hs)).2.1
  ne := (PySem.W.handS_kitx_exc (x := x) (ox := ox) C.hg C.hk C.hs C.hd C.ha C.hn C.ht C.hm).ne
  ca := fun X I k => err_class C X I k
end
/-- isinstance(e, c), e the error that the suite holds, dd its dict -/
def rIsF (K : PySem.W.Frag) (D a dd : Addr) : List V → Hp → VK → Prop := fun xs H Q => ∃ (c : V) (cv : Value) (b : Bool), xs = [.ref a, c] ∧ (∃ fs, H dd = some (.xd fs)) ∧ (∀ u, RelV c u → u = cv) ∧ kitOne K (.ref D) cv = some b ∧ Q (.bl b) H
theorem call_isF {X : Cx} {a D dd : Addr} {oe : Obj} {pn : List (Addr × Obj)} (C : ExcC X.K D) (t : PySem.W.typeIn X.K (.ref D) = some (.type "type")) (hs : subIn X.K (.ref D) (.ref D) = some true) (hz : Zc (.ref D) (some dd) oe) (hf : ∃ vs, oe.data = .fields vs) : CallR (X.suite a ((a, oe) :: pn)) (.builtin "isinstance") (rIsF X.K D a dd) := by
  intro pins s σ H xs us Q I r ⟨c, cv, b, ex, ⟨fs, ed⟩, hcv, e, q⟩
  subst ex
  match us, r with
  | [_, u], .cons rx (.cons rt .nil) =>
    cases rx
    have ec := hcv _ rt
    subst ec
    obtain ⟨hget, _⟩ := I.pin (a, oe) (List.mem_append_left _ List.mem_cons_self)
    obtain ⟨vs, hv⟩ := hf
    obtain ⟨mA, hns, _⟩ := (show ObjOk X.prog X.w H s.heap dd (.xd fs) from I.hok dd _ ed)
    obtain ⟨od, ho, _⟩ := lookIn_ns hns
    have J : PySem.W.InstAt s.heap a oe D (some od) := ⟨hget, hz.1, by unfold PySem.W.notCls; rw [hv] <;> rfl, by rw [hz.2]; exact ho⟩
    exact PySem.W.kia_one (err_kit C t hs) I.kIn J e (fun z => nomatch z) fun tk => ⟨.bl b, H, I.kept (t' := tk) fun _ _ z => z, rfl, q⟩
/-- .. with a field or without one -/
def rIsG (K : PySem.W.Frag) (D a : Addr) (d : Option Addr) : List V → Hp → VK → Prop := fun xs H Q => ∃ (c : V) (cv : Value) (b : Bool), xs = [.ref a, c] ∧ (∀ dd, d = some dd → ∃ fs, H dd = some (.xd fs)) ∧ (∀ u, RelV c u → u = cv) ∧ kitOne K (.ref D) cv = some b ∧ Q (.bl b) H
theorem call_isG {X : Cx} {a D : Addr} {d : Option Addr} {oe : Obj} {pn : List (Addr × Obj)} (C : ExcC X.K D) (t : PySem.W.typeIn X.K (.ref D) = some (.type "type")) (hs : subIn X.K (.ref D) (.ref D) = some true) (hz : Zc (.ref D) d oe) (hf : ∃ vs, oe.data = .fields vs) : CallR (X.suite a ((a, oe) :: pn)) (.builtin "isinstance") (rIsG X.K D a d) := by
  intro pins s σ H xs us Q I r ⟨c, cv, b, ex, ed, hcv, e, q⟩
  cases d with
  | none => exact call_isE C hz hf pins s σ H xs us Q I r ⟨c, cv, b, ex, hcv, e, q⟩
  | some dd => exact call_isF C t hs hz hf pins s σ H xs us Q I r ⟨c, cv, b, ex, ed dd rfl, hcv, e, q⟩
end Cc

namespace Cc
open PySem PySem.Spec PyProof.Rows L2
/-- where the nine classes of errors stand -/
structure Nine (mg : Str → Option Value) (e0 e1 e2 e3 e4 e5 e6 e7 e8 : Addr) : Prop where
  t0 : mg "DaybookError" = some (.ref e0)
  t1 : mg "DecodeError" = some (.ref e1)
  t2 : mg "InvalidBooking" = some (.ref e2)
  t3 : mg "InvalidNumber" = some (.ref e3)
  t4 : mg "InvalidOperation" = some (.ref e4)
  t5 : mg "InvalidPlan" = some (.ref e5)
  t6 : mg "InvalidText" = some (.ref e6)
  t7 : mg "NotEnough" = some (.ref e7)
  t8 : mg "TooFewChairs" = some (.ref e8)
/-- one of them, asked which it is -/
structure KindA (K : PySem.W.Frag) (D e0 e1 e2 e3 e4 e5 e6 e7 e8 : Addr) (b0 b1 b2 b3 b4 b5 b6 b7 b8 : Bool) : Prop where
  ec : ExcC K D
  xf : XfC K D
  tt : PySem.W.typeIn K (.ref D) = some (.type "type")
  ss : PySem.W.subIn K (.ref D) (.ref D) = some true
  nI : PySem.W.findIn K (.ref D) "index" = some none
  nR : PySem.W.findIn K (.ref D) "row" = some none
  nO : PySem.W.findIn K (.ref D) "offset" = some none
  k0 : PySem.W.kitOne K (.ref D) (.ref e0) = some b0
  k1 : PySem.W.kitOne K (.ref D) (.ref e1) = some b1
  k2 : PySem.W.kitOne K (.ref D) (.ref e2) = some b2
  k3 : PySem.W.kitOne K (.ref D) (.ref e3) = some b3
  k4 : PySem.W.kitOne K (.ref D) (.ref e4) = some b4
  k5 : PySem.W.kitOne K (.ref D) (.ref e5) = some b5
  k6 : PySem.W.kitOne K (.ref D) (.ref e6) = some b6
  k7 : PySem.W.kitOne K (.ref D) (.ref e7) = some b7
  k8 : PySem.W.kitOne K (.ref D) (.ref e8) = some b8
  kv : PySem.W.kitOne K (.ref D) (.type "ValueError") = some true
abbrev words9 : List V := [.str "daybook", .str "code", .str "booking", .str "number", .str "operation", .str "plan", .str "text", .str "enough", .str "few"]
/-- the flags say kind j, whose word is wd -/
structure Flags (b0 b1 b2 b3 b4 b5 b6 b7 b8 : Bool) (j : Nat) (wd : Str) : Prop where
  one : (List.countP (fun z => PyData.eqv z (.bool true)) [PyData.bool b0, .bool b1, .bool b2, .bool b3, .bool b4, .bool b5, .bool b6, .bool b7, .bool b8]) = 1
  sh : SeqAt.shaped (.list [PyData.bool b0, .bool b1, .bool b2, .bool b3, .bool b4, .bool b5, .bool b6, .bool b7, .bool b8]) = true
  pl : PyData.plainAll [PyData.bool b0, .bool b1, .bool b2, .bool b3, .bool b4, .bool b5, .bool b6, .bool b7, .bool b8] = true
  at_ : [PyData.bool b0, .bool b1, .bool b2, .bool b3, .bool b4, .bool b5, .bool b6, .bool b7, .bool b8][j]? = some (.bool true)
  no : ∀ m z, m < j → [PyData.bool b0, .bool b1, .bool b2, .bool b3, .bool b4, .bool b5, .bool b6, .bool b7, .bool b8][m]? = some z → PyData.eqv z (.bool true) = false
  wd : words9[j]? = some (.str wd)
theorem flags_few : Flags false false false false false false false false true 8 "few" := ⟨by decide +kernel, by decide +kernel, by decide +kernel, rfl, fun m z hm hz => by
  match m, hm with
  | 0, _ => cases hz; decide +kernel
  | 1, _ => cases hz; decide +kernel
  | 2, _ => cases hz; decide +kernel
  | 3, _ => cases hz; decide +kernel
  | 4, _ => cases hz; decide +kernel
  | 5, _ => cases hz; decide +kernel
  | 6, _ => cases hz; decide +kernel
  | 7, _ => cases hz; decide +kernel, rfl⟩
theorem flags_enough : Flags false false false false false false false true false 7 "enough" := ⟨by decide +kernel, by decide +kernel, by decide +kernel, rfl, fun m z hm hz => by
  match m, hm with
  | 0, _ => cases hz; decide +kernel
  | 1, _ => cases hz; decide +kernel
  | 2, _ => cases hz; decide +kernel
  | 3, _ => cases hz; decide +kernel
  | 4, _ => cases hz; decide +kernel
  | 5, _ => cases hz; decide +kernel
  | 6, _ => cases hz; decide +kernel, rfl⟩
theorem flags_number : Flags false false false true false false false false false 3 "number" := ⟨by decide +kernel, by decide +kernel, by decide +kernel, rfl, fun m z hm hz => by
  match m, hm with
  | 0, _ => cases hz; decide +kernel
  | 1, _ => cases hz; decide +kernel
  | 2, _ => cases hz; decide +kernel, rfl⟩
theorem flags_booking : Flags false false true false false false false false false 2 "booking" := ⟨by decide +kernel, by decide +kernel, by decide +kernel, rfl, fun m z hm hz => by
  match m, hm with
  | 0, _ => cases hz; decide +kernel
  | 1, _ => cases hz; decide +kernel, rfl⟩
end Cc

/-! Generators that a comprehension drains: its list S grows, its own names (at C) change while the generator sleeps; a for with a yield. -/
namespace Cc
open PySem PySem.Spec PyProof.Rows L2 GenW
/-- names stand in such an object at C -/
def LocO (C : Addr) (o : Obj) : Prop := (∃ m, ∀ h : Heap, h.get? C = some o → h.Ns C m) ∧ ∀ v, o.data ≠ .cell v
/-- what the consumer does between two items -/
structure Nap (S C : Addr) (v : Value) (s s' : Shared) : Prop where
  os : s'.os = s.os
  bare : AllBare s'.gens
  keep : ∀ b o, b ≠ S → b ≠ C → s.heap.get? b = some o → s'.heap.get? b = some o
  grow : ∀ vs n, s.heap.get? S = some (lstObj vs n) → ∃ n', s'.heap.get? S = some (lstObj (vs.push v) n')
  loc : ∃ o, LocO C o ∧ s'.heap.get? C = some o
def Run (X : Cx) (S C : Addr) (ip : List (Addr × Obj)) (ys : List V) (σ : L2.St) (H : Hp) (s : Shared) : Prop := ∃ o, LocO C o ∧ GI X S ((C, o) :: ip) ys σ H s
/-- the two lie apart from the generator's own -/
structure Far (X : Cx) (S C : Addr) (ip : List (Addr × Obj)) : Prop where
  ne : S ≠ C
  aS : Apart X S
  aC : Apart X C
  pS : ∀ p ∈ X.pn ++ ip, p.1 ≠ S
  pC : ∀ p ∈ X.pn ++ ip, p.1 ≠ C
theorem Run.woken {X : Cx} {S C : Addr} {ip : List (Addr × Obj)} {ys : List V} {x : V} {v : Value} {σ : L2.St} {H : Hp} {s s' : Shared} (F : Far X S C ip) (h : Run X S C ip ys σ H s) (rv : RelV x v) (z : Nap S C v s s') : Run X S C ip (ys ++ [x]) σ H s' := by
  obtain ⟨o, ho, acc, c, r, I⟩ := h
  obtain ⟨eS, nS, lS, fS, _⟩ := I.pin (S, lstObj acc c) (List.mem_append_right _ List.mem_cons_self)
  obtain ⟨eC, nC, lC, fC, _⟩ := I.pin (C, o) (List.mem_append_right _ (List.mem_cons_of_mem _ List.mem_cons_self))
  have I0 : Inv X ip σ H s := I.pins_of fun p hp => I.pin p (List.mem_append_right _ (List.mem_cons_of_mem _ (List.mem_cons_of_mem _ hp)))
  obtain ⟨z1, z2, z3, z4, o', ho', eC'⟩ := z
  obtain ⟨cS, eS'⟩ := z4 acc c eS
  obtain ⟨hq, gq, dq, tq, os⟩ := s'
  cases (show os = s.os from z1)
  have far : ∀ b, b ∉ [S, C] → b ≠ S ∧ b ≠ C := fun b hb => ⟨fun e => hb (by rw [e]; exact List.mem_cons_self), fun e => hb (by rw [e]; exact List.mem_cons_of_mem _ List.mem_cons_self)⟩
  have old : ∀ b ob, b ∉ [S, C] → s.heap.get? b = some ob → hq.get? b = some ob := fun b ob hb q => z3 b ob (far b hb).1 (far b hb).2 q
  have tr : ∀ b u, H b = some u → b ≠ S ∧ b ≠ C := fun b u q => ⟨fun e => (by rw [e, nS] at q; cases q), fun e => (by rw [e, nC] at q; cases q)⟩
  have J : Inv X ip σ H { s with heap := hq, gens := gq, drawn := dq, toks := tq } := by
    refine I0.step (g' := gq) (t' := tq) (d' := dq) (ch := [S, C]) (fun b hb => ?_) (fun b ob _ _ hc q _ => old b ob hc q) (fun b ob _ _ hc q _ => ⟨ob.slots, old b ob hc q⟩) (fun _ _ _ _ n => n)
      (fun b ob hc q => ⟨ob, old b ob hc q⟩) (fun _ _ q => q) (fun _ _ _ q => q) (fun b ps q => ⟨#[], by rw [q]; simp⟩) (fun m hm => ?_) (fun b u q => ?_) z2
    · rcases List.mem_cons.mp hb with e | e
      · rw [e]
        exact ⟨.inr F.aS.1, F.aS.2.1, F.aS.2.2, F.pS⟩
      · have e2 := List.mem_singleton.mp e
        rw [e2]
        exact ⟨.inr F.aC.1, F.aC.2.1, F.aC.2.2, F.pC⟩
    · obtain ⟨ob, es, ep, hob, rest⟩ := hm
      exact ⟨ob, es, ep, z3 _ ob (Ne.symm lS) (Ne.symm lC) hob, rest⟩
    · refine (I0.hok b u q).stay (fun e w hc y => ?_) (fun _ y => y) fun _ _ y => y
      have ne : e ≠ S ∧ e ≠ C := by
        rcases hc with y | y
        · rw [y]
          exact tr b u q
        · exact tr e _ y
      exact z3 e w ne.1 ne.2 y
  refine ⟨o', ho', acc.push v, cS, ?_, J.pins_of fun p hp => ?_⟩
  · rw [Array.toList_push]
    exact r.append (.cons rv (.nil))
  · rcases List.mem_cons.mp hp with e | hp
    · rw [e]
      exact ⟨eS', nS, lS, fS, fun v q => by cases q⟩
    · rcases List.mem_cons.mp hp with e | hp
      · rw [e]
        exact ⟨eC', nC, lC, fC, ho'.2⟩
      · exact J.pin p (List.mem_append.mpr (.inr hp))
/-! ### the protocol -/
def YP (X : Cx) (S C : Addr) : Protocol := fun n s₀ v s kap => ∃ ys x ip σ H, n + 1 + ys.length = sizeLine ∧ RelV x v ∧ Run X S C ip ys σ H s ∧ ∀ s', Nap S C v s s' → kap (.send .none) s'
def RP (X : Cx) (S C : Addr) (Q : List V → VK) (F : Value → Shared → Prop) : GenEnd := fun n s₀ r s => match r with
  | .ok (.ret u) => ∃ ys v ip σ H, n + ys.length = sizeLine ∧ Run X S C ip ys σ H s ∧ RelV v u ∧ Q ys v H
  | .ok _ => False
  | .error e => F e s
def FlowP (X : Cx) (S C : Addr) (ip : List (Addr × Obj)) (D : GEnds) (ys : List V) (f : Flow) (s : Shared) : Prop :=
  match f with
  | .next => ∃ σ H, Run X S C ip ys σ H s ∧ D.nx ys σ H
  | .brk => ∃ σ H, Run X S C ip ys σ H s ∧ D.bk ys σ H
  | .cont => ∃ σ H, Run X S C ip ys σ H s ∧ D.ct ys σ H
  | .ret u => ∃ v σ H, Run X S C ip ys σ H s ∧ RelV v u ∧ D.rt ys v H
structure Here (X : Cx) (S C : Addr) (ip : List (Addr × Obj)) (A : Around) (c : Code) (fs : List Frame) (gd : Bool → Bool) : Prop where
  far : Far X S C ip
  over : A.over c fs = X.A
  split : splitAtGen fs = none
  bare : fs.any Frame.guarded = false
  gd : gd false = false
structure Then (X : Cx) (S C : Addr) (ip : List (Addr × Obj)) (A : Around) (R : GenEnd) (c : Code) (fs : List Frame) (K : Flow → Sem PySem.Fin) (J : Value → Sem PySem.Fin) (D : GEnds) : Prop where
  ok : ∀ (n : Nat) (ys : List V) (s₀ s : Shared) (f : Flow), n + ys.length = sizeLine → FlowP X S C ip D ys f s → Seg (model X.prog X.w) A R (YP X S C) n s₀ c (K f) fs s
  exc : ∀ (n : Nat) (s₀ : Shared) (e : Value) (s : Shared), X.xe e s → Seg (model X.prog X.w) A R (YP X S C) n s₀ c (J e) fs s
/-- a tree of the body, wrapped, runs so -/
def Goes (X : Cx) (T : Sem Flow) (t : TGn) : Prop :=
  ∀ (A : Around) (S C : Addr) (ip : List (Addr × Obj)) (R : GenEnd) (n : Nat) (ys : List V) (s₀ : Shared) (c : Code) (fs : List Frame) (K : Flow → Sem PySem.Fin) (J : Value → Sem PySem.Fin) (gd : Bool → Bool) (lv : List Value → List Value) (s : Shared) (σ : L2.St) (H : Hp) (D : GEnds),
    Here X S C ip A c fs gd → n + ys.length = sizeLine → Then X S C ip A R c fs K J D → Run X S C ip ys σ H s → t D ys σ H → Seg (model X.prog X.w) A R (YP X S C) n s₀ c (T.wrap K J gd lv) fs s
section
variable {st : Stmt} {rest : List Stmt} {X : Cx}
theorem flow_of {S C : Addr} {acc : Array Value} {c : Nat} {o : Obj} {ip : List (Addr × Obj)} {s : Shared} {D : GEnds} {ys : List V} {f : Flow} (ho : LocO C o) (r : Vals ys acc.toList) (h : SP X ((S, lstObj acc c) :: (C, o) :: ip) (D.at ys) f s) : FlowP X S C ip D ys f s := by
  cases f with
  | ret u =>
    obtain ⟨v, σ, H, I, r1, q⟩ := h
    exact ⟨v, σ, H, ⟨o, ho, acc, c, r, I⟩, r1, q⟩
  | next =>
    obtain ⟨σ, H, I, q⟩ := h
    exact ⟨σ, H, ⟨o, ho, acc, c, r, I⟩, q⟩
  | brk =>
    obtain ⟨σ, H, I, q⟩ := h
    exact ⟨σ, H, ⟨o, ho, acc, c, r, I⟩, q⟩
  | cont =>
    obtain ⟨σ, H, I, q⟩ := h
    exact ⟨σ, H, ⟨o, ho, acc, c, r, I⟩, q⟩
theorem gb_plain {t : TS} (h : PS X st t) : Goes X (exec st X.env) (tPlain t) := by
  intro A S C ip R n ys s₀ c fs K J gd lv s σ H D g hn k hI ht
  obtain ⟨o, ho, acc, cc, r, I⟩ := hI
  refine seg_wrap ?_
  rw [g.over]
  exact wpAny_mono (h.run _ s σ H (D.at ys) I ht) (fun f s' q => k.ok n ys s₀ s' f hn (flow_of ho r q)) fun x s' q => k.exc n s₀ x s' q
theorem gb_nil : Goes X (execs [] X.env) tG0 := by
  intro A S C ip R n ys s₀ c fs K J gd lv s σ H D g hn k hI ht
  refine seg_execs_nil ?_
  exact k.ok n ys s₀ s .next hn ⟨σ, H, hI, ht⟩
theorem gb_cons {t u : TGn} (a : Goes X (exec st X.env) t) (b : Goes X (execs rest X.env) u) : Goes X (execs (st :: rest) X.env) (tGThen t u) := by
  intro A S C ip R n ys s₀ c fs K J gd lv s σ H D g hn k hI ht
  refine seg_execs_cons (a A S C ip R n ys s₀ c fs _ J gd lv s σ H { D with nx := fun ys' σ' H' => u D ys' σ' H' } g hn ⟨fun n' ys' s₀' s' f hn' q => ?_, k.exc⟩ hI ht)
  cases f with
  | next =>
    obtain ⟨σ', H', I', q⟩ := q
    exact b A S C ip R n' ys' s₀' c fs K J gd lv s' σ' H' D g hn' k I' q
  | ret u => exact k.ok n' ys' s₀' s' (.ret u) hn' q
  | brk => exact k.ok n' ys' s₀' s' .brk hn' q
  | cont => exact k.ok n' ys' s₀' s' .cont hn' q
theorem gb_yield {e : Expr} {yp pos : Pos} {te : TE} (he : PE X e te) (hco : X.env.scope.isCoroutine = false := by rfl) (hi : interactive X.env = false := by rfl) : Goes X (exec (.Expr (.Yield (some e) yp) pos) X.env) (tGYield te) := by
  intro A S C ip R n ys s₀ c fs K J gd lv s σ H D g hn k hI ht
  obtain ⟨room, ht⟩ := ht
  obtain ⟨n, rfl⟩ : ∃ j, n = j + 1 := ⟨n - 1, by omega⟩
  obtain ⟨o, ho, acc, cc, r, I⟩ := hI
  refine seg_Expr_Yield g.split g.gd g.bare ?_ hco hi
  rw [g.over]
  refine wpAny_mono (he.run _ s σ H _ I ht) (fun v s' hv => ?_) fun x s' q => k.exc _ s₀ x s' q
  obtain ⟨y, H1, I1, rv, q⟩ := hv
  have G1 : Run X S C ip ys σ H1 s' := ⟨o, ho, acc, cc, r, I1⟩
  refine fun kap hk => ⟨ys, y, ip, σ, H1, hn, rv, G1, fun s2 z => hk .none s2 (k.ok n (ys ++ [y]) s2 s2 .next ?_ ⟨σ, H1, G1.woken g.far rv z, q⟩)⟩
  rw [List.length_append]
  show n + (ys.length + 1) = _
  omega
end
/-! ### a for amid -/
section
variable {prog : Program} {w : World} {A : Around} {R : GenEnd} {Y : Protocol} {n : Nat} {s₀ s : Shared} {fs : List Frame} {env : Env} {tg : Expr} {it : Value} {body : List Stmt}
/-- an exception out of the loop's code -/
abbrev outX (env : Env) (e : Value) : Sem PySem.Fin := (do noteFrame e env; theTreesLotGoes e : Sem Unit).wrap (fun _ => .raise e) .raise id id
theorem seg_turn (h : wpAny (model prog w) (A.over (.forLoop tg it body [] env) fs) (pyNext it) (fun r s1 => match r with
      | none => Seg (model prog w) A R Y n s₀ (.block [] env) ((model prog w).den (.block [] env)) fs s1
      | some v => wpAny (model prog w) (A.over (.forLoop tg it body [] env) fs) (letOwnedTupleGo tg it v) (fun _ s2 => wpAny (model prog w) (A.over (.forLoop tg it body [] env) fs) (assign tg env v) (fun _ s3 =>
          Seg (model prog w) A R Y n s₀ (.forLoop tg it body [] env) ((execs body env).wrap (fun f => match f with
            | .next | .cont => .pure (.again (.forLoop tg it body [] env))
            | .brk => .pure (.done .next)
            | .ret v => .pure (.done (.ret v))) (outX env) id id) fs s3)
          (fun x s' => Seg (model prog w) A R Y n s₀ (.forLoop tg it body [] env) (outX env x) fs s') s2)
          (fun x s' => Seg (model prog w) A R Y n s₀ (.forLoop tg it body [] env) (outX env x) fs s') s1)
      (fun x s' => Seg (model prog w) A R Y n s₀ (.forLoop tg it body [] env) (outX env x) fs s') s) :
    Seg (model prog w) A R Y n s₀ (.forLoop tg it body [] env) ((model prog w).den (.forLoop tg it body [] env)) fs s := by
  show Seg _ A R Y n s₀ _ ((forTurn tg it body [] env).onRaise (fun x => do noteFrame x env; theTreesLotGoes x)) fs s
  have ex : ∀ (x : Value) (s' : Shared), Seg (model prog w) A R Y n s₀ (.forLoop tg it body [] env) (outX env x) fs s' → Seg (model prog w) A R Y n s₀ (.forLoop tg it body [] env) ((do noteFrame x env; theTreesLotGoes x : Sem Unit).bind fun _ => .raise x) fs s' := fun x s' q => by
    rw [Sem.bind_eq_wrap]
    exact q
  rw [Sem.onRaise_eq_wrap]
  unfold forTurn
  refine seg_bind_wrap (wpAny_standAt (seg_bind_wrap (wpAny_onRaise (wpAny_mono h (fun r s1 h1 => ?_) fun x s' q => wpAny_standAt (ex x s' q)))))
  cases r with
  | none => exact seg_again rfl h1
  | some v =>
    refine seg_bind_wrap (wpAny_mono h1 (fun _ s2 h2 => ?_) fun x s' q => ex x s' q)
    refine seg_bind_wrap (wpAny_mono h2 (fun _ s3 h3 => ?_) fun x s' q => ex x s' q)
    rw [Sem.bind_eq_wrap', Sem.wrap_wrap]
    exact Eq.mpr (congrArg (fun t => Seg (model prog w) A R Y n s₀ (.forLoop tg it body [] env) t fs s3) (Sem.wrap_congr (execs body env) id id (fun f => by cases f <;> rfl) fun e => Sem.bind_eq_wrap _ _)) h3
end
section
variable {X : Cx}
theorem here_in {S C : Addr} {ip : List (Addr × Obj)} {A : Around} {c c' : Code} {fs : List Frame} {gd : Bool → Bool} {k : Result → Sem PySem.Fin} {l kp : List Value} {p : Pos} (g : Here X S C ip A c fs gd) (hw : c'.weight = 0) (hu : c'.cUnits = 0) {ip' : List (Addr × Obj)} (hf : Far X S C ip') :
    Here X S C ip' A c' (.ret k none (gd false) l c p kp :: fs) id := by
  refine ⟨hf, (over_loop hw hu).trans g.over, ?_, ?_, rfl⟩
  · change (splitAtGen fs).map _ = none
    rw [g.split]
    rfl
  · change (gd false || fs.any Frame.guarded) = false
    rw [g.gd, g.bare]
    rfl
theorem seg_back {S C : Addr} {ip : List (Addr × Obj)} {A : Around} {R : GenEnd} {c : Code} {fs : List Frame} {K : Flow → Sem PySem.Fin} {J : Value → Sem PySem.Fin} {gd : Bool → Bool} {lv : List Value → List Value} {D : GEnds} {n : Nat} {s₀ s : Shared} {e : Value}
    (g : Here X S C ip A c fs gd) (k : Then X S C ip A R c fs K J D) (h : cameBackBy (model X.prog X.w) X.A X.env X.xe e s) :
    Seg (model X.prog X.w) A R (YP X S C) n s₀ c (((Sem.raise e : Sem Flow).onRaise (cameBack X.env)).wrap K J gd lv) fs s := by
  show Seg _ _ _ _ n s₀ c (((cameBack X.env e).bind fun _ => (Sem.raise e : Sem Flow)).wrap K J gd lv) fs s
  rw [Sem.bind_eq_wrap (cameBack X.env e), Sem.wrap_wrap]
  refine seg_wrap ?_
  rw [g.over]
  refine wpAny_mono h (fun _ s2 q => ?_) fun x s2 q => k.exc n s₀ x s2 q
  exact k.exc n s₀ e s2 q
def tGFor (wi : TI) (g : TG) (tb : TGn) : TGn := fun D ys σ H => wi σ H fun J H1 => ∃ W : Nat → Nat → List V → L2.St → Hp → Prop, (∃ m, W 0 m ys σ H1) ∧ ∀ i m ys σ H, W i m ys σ H →
  (J.stop i H ∧ D.nx ys σ H) ∨ (J.go i H ∧ ∃ N : List V → L2.St → Hp → Prop, (∀ ys' σ' H', N ys' σ' H' → ∃ m', m' < m ∧ W (i + 1) m' ys' σ' H') ∧ ∀ x H', J.yld i H x H' → g x σ H' fun σ2 H2 => tb { D with nx := N, ct := N, bk := D.nx } ys σ2 H2)
theorem Run.unpin {S C : Addr} {ip : List (Addr × Obj)} {fp : List Addr} {h : Heap} {ys : List V} {σ : L2.St} {H : Hp} {s : Shared} (q : Run X S C (ip ++ pinsAt fp h) ys σ H s) : Run X S C ip ys σ H s :=
  let ⟨o, ho, acc, c, r, I⟩ := q
  ⟨o, ho, acc, c, r, (show Inv X (((S, lstObj acc c) :: (C, o) :: ip) ++ pinsAt fp h) σ H s from I).unpinned⟩
theorem gb_for {tg iter : Expr} {body : List Stmt} {wi : TI} {g : TG} {tb : TGn} {pos : Pos} (hp : PassesOwn (model X.prog X.w) X.A X.env X.xe) (hc : X.calm = true) (hi : PI X tg iter wi) (hg : PG X tg g) (hb : Goes X (execs body X.env) tb)
    (hs : ∀ x, foldedSetIterable iter X.env x = pure x := by intro _; rfl) : Goes X (exec (.For tg iter body [] pos) X.env) (tGFor wi g tb) := by
  intro A S C ip R n ys s₀ c fs K J gd lv s σ H D gh hn k hI ht
  obtain ⟨o, ho, acc, cc, r, I⟩ := hI
  rw [exec_For]
  refine seg_bind_wrap (wpAny_standAt (seg_bind_wrap ?_))
  rw [gh.over]
  refine wpAny_mono (hi.run _ s σ H _ I ht) (fun v s1 h1 => ?_) fun x s' q => k.exc n s₀ x s' q
  refine seg_bind_wrap (wpAny_of_eq (hs v) (seg_bind_wrap (wpAny_standAt (seg_bind_wrap (wpAny_holding ?_)))))
  rw [gh.over]
  refine wpAny_mono h1 (fun itv s2 h2 => ?_) fun x s' q => k.exc n s₀ x s' q
  obtain ⟨it, fp, tn, Jt, H2, e, I2, T, st2, f2, W, ⟨m0, w0⟩, turn⟩ := h2
  subst e
  refine seg_call fun p => ?_
  -- where the iterator's own objects lie
  have apart : ∀ b ∈ fp, (b ≠ X.env.locals ∧ b ∉ X.fs ∧ (b ∈ X.ex ∨ X.s_0.heap.objs.size ≤ b) ∧ ∀ x c, X.env.cells.lookup x = some c → c ≠ b) ∧ S ≠ b ∧ C ≠ b ∧ ∀ q ∈ X.pn ++ ip, q.1 ≠ b := fun b hb => by
    obtain ⟨_, z1, z2, z3, z4, z5⟩ := f2 b hb
    refine ⟨⟨z1, z2, z3, z4⟩, z5 (S, lstObj acc cc) (List.mem_append_right _ List.mem_cons_self), z5 (C, o) (List.mem_append_right _ (List.mem_cons_of_mem _ List.mem_cons_self)), fun q hq => ?_⟩
    rcases List.mem_append.mp hq with y | y
    · exact z5 q (List.mem_append_left _ y)
    · exact z5 q (List.mem_append_right _ (List.mem_cons_of_mem _ (List.mem_cons_of_mem _ y)))
  have stat : ∀ {acc' : Array Value} {c' : Nat} {o' : Obj} {H' : Hp}, (∀ b ∈ fp, H' b = none) → ∀ b ∈ fp, FpOk X ((S, lstObj acc' c') :: (C, o') :: ip) H' b := fun {acc' c' o' H'} hn b hb => by
    obtain ⟨⟨z1, z2, z3, z4⟩, z5, z6, z7⟩ := apart b hb
    refine ⟨hn b hb, z1, z2, z3, z4, fun q hq => ?_⟩
    rcases List.mem_append.mp hq with y | y
    · exact z7 q (List.mem_append_left _ y)
    · rcases List.mem_cons.mp y with y | y
      · rw [y]
        exact z5
      · rcases List.mem_cons.mp y with y | y
        · rw [y]
          exact z6
        · exact z7 q (List.mem_append_right _ y)
  have farP : ∀ h : Heap, Far X S C (ip ++ pinsAt fp h) := fun h => by
    have ofP : ∀ q ∈ X.pn ++ (ip ++ pinsAt fp h), q ∈ X.pn ++ ip ∨ q.1 ∈ fp := fun q hq => by
      rcases List.mem_append.mp hq with y | y
      · exact .inl (List.mem_append_left _ y)
      · rcases List.mem_append.mp y with y | y
        · exact .inl (List.mem_append_right _ y)
        · refine .inr ?_
          unfold pinsAt at y
          obtain ⟨b, hb, eb⟩ := List.mem_filterMap.mp y
          cases eo : h.get? b with
          | none =>
            rw [eo] at eb
            cases eb
          | some ob =>
            rw [eo] at eb
            cases eb
            exact hb
    exact ⟨gh.far.ne, gh.far.aS, gh.far.aC, fun q hq => (ofP q hq).elim (gh.far.pS q) fun y => (apart q.1 y).2.1.symm, fun q hq => (ofP q hq).elim (gh.far.pC q) fun y => (apart q.1 y).2.2.1.symm⟩
  have hl := fun (kk : Result → Sem PySem.Fin) (ip' : List (Addr × Obj)) (hf : Far X S C ip') => here_in (k := kk) (c' := .forLoop tg (.ref it) body [] X.env) (l := lv []) (kp := []) (p := p) gh rfl rfl hf
  have loop : ∀ (m n i : Nat) (ys : List V) (s₀ s : Shared) (σ : L2.St) (H : Hp), n + ys.length = sizeLine → W i m ys σ H → Run X S C ip ys σ H s → tn i s.heap → (∀ b ∈ fp, H b = none) →
      Seg (model X.prog X.w) A R (YP X S C) n s₀ (.forLoop tg (.ref it) body [] X.env) ((model X.prog X.w).den (.forLoop tg (.ref it) body [] X.env))
        (.ret (fun z => ((match z with | .ok f => (.pure f : Sem Flow) | .error e => .raise e).onRaise (cameBack X.env)).wrap K J gd lv) none (gd false) (lv []) c p [] :: fs) s := by
    intro m
    refine Nat.strongRecOn m fun m ih => ?_
    · intro n i ys s₀ s σ H hn w ⟨o, ho, acc, cc, r, I⟩ st fr
      have ee : ∀ (n : Nat) (s₀ : Shared) (x : Value) (s' : Shared), X.xe x s' → Seg (model X.prog X.w) A R (YP X S C) n s₀ (.forLoop tg (.ref it) body [] X.env) (outX X.env x)
          (.ret (fun z => ((match z with | .ok f => (.pure f : Sem Flow) | .error e => .raise e).onRaise (cameBack X.env)).wrap K J gd lv) none (gd false) (lv []) c p [] :: fs) s' := fun n s₀ x s' hx => by
        refine seg_wrap ?_
        rw [(hl _ ip gh.far).over]
        refine wpAny_bind (wpAny_mono (hp x s' hx) (fun _ s2 q => wpAny_theTreesLotGoes ?_) fun y s2 q => ?_)
        · exact seg_leaf (.error x) (seg_back gh k q)
        · exact seg_leaf (.error y) (seg_back gh k q)
      refine seg_turn ?_
      rw [(hl _ ip gh.far).over]
      rcases turn i m ys σ H w with ⟨halt, q⟩ | ⟨go, N, hN, step⟩
      · refine wpAny_mono (T.done X rfl rfl rfl hc i _ s σ H X.xe I (stat fr) st halt) (fun z s4 ⟨hz, I4⟩ => ?_) fun x s' q => ee n s₀ x s' q
        subst hz
        exact seg_leaf (.ok .next) (k.ok n ys s₀ s4 .next hn ⟨σ, H, ⟨o, ho, acc, cc, r, I4⟩, q⟩)
      · refine wpAny_mono (T.item X rfl rfl rfl hc i _ s σ H X.xe I (stat fr) st go) (fun z s4 ⟨u, hz, h4⟩ => ?_) fun x s' q => ee n s₀ x s' q
        subst hz
        refine wpAny_mono h4 (fun _ s5 ⟨x, H5, I5, r5, y5, st5, fr5⟩ => ?_) fun x s' q => ee n s₀ x s' q
        refine wpAny_mono (hg.run _ s5 σ H5 x u _ (I5.pinned (stat fr5) (T.obj _ _ st5)) r5 (step x H5 y5)) (fun _ s6 ⟨σ6, H6, I6, q6⟩ => ?_) fun x s' q => ee n s₀ x s' q
        have next : ∀ {n' : Nat} {ys' : List V} {s₀' s7 : Shared}, n' + ys'.length = sizeLine → (∃ σ' H', Run X S C (ip ++ pinsAt fp s5.heap) ys' σ' H' s7 ∧ N ys' σ' H') →
            Seg (model X.prog X.w) A R (YP X S C) n' s₀' (.forLoop tg (.ref it) body [] X.env) (.pure (.again (.forLoop tg (.ref it) body [] X.env)))
              (.ret (fun z => ((match z with | .ok f => (.pure f : Sem Flow) | .error e => .raise e).onRaise (cameBack X.env)).wrap K J gd lv) none (gd false) (lv []) c p [] :: fs) s7 := fun {n' ys' s₀' s7} hn' ⟨σ7, H7, R7, n7⟩ => by
          obtain ⟨m', hm, w7⟩ := hN ys' σ7 H7 n7
          have pin7 : ∀ b ∈ fp, ∀ ob, s5.heap.get? b = some ob → s7.heap.get? b = some ob ∧ H7 b = none := fun b hb ob e => by
            obtain ⟨o7, ho7, acc7, c7, r7, I7⟩ := R7
            have z := I7.pin (b, ob) (List.mem_append_right _ (List.mem_cons_of_mem _ (List.mem_cons_of_mem _ (List.mem_append_right _ (mem_pinsAt hb e)))))
            exact ⟨z.1, z.2.1⟩
          refine seg_again rfl (ih m' hm n' (i + 1) ys' s₀' s7 σ7 H7 hn' w7 R7.unpin (T.keep _ _ _ st5 fun b hb ob e => (pin7 b hb ob e).1) fun b hb => ?_)
          obtain ⟨ob, e, _⟩ := T.obj _ _ st5 b hb
          exact (pin7 b hb ob e).2
        refine hb A S C (ip ++ pinsAt fp s5.heap) R n ys s₀ _ _ _ _ id id s6 σ6 H6 { D with nx := N, ct := N, bk := D.nx } (hl _ _ (farP s5.heap)) hn ⟨fun n' ys' s₀' s7 f hn' q => ?_, fun n' s₀' x s7 q => ee n' s₀' x s7 q⟩ ⟨o, ho, acc, cc, r, I6⟩ q6
        cases f with
        | next => exact next hn' q
        | cont => exact next hn' q
        | brk =>
          obtain ⟨σ7, H7, R7, q⟩ := q
          exact seg_leaf (.ok .next) (k.ok n' ys' s₀' s7 .next hn' ⟨σ7, H7, R7.unpin, q⟩)
        | ret u =>
          obtain ⟨v7, σ7, H7, R7, r7, q⟩ := q
          exact seg_leaf (.ok (.ret u)) (k.ok n' ys' s₀' s7 (.ret u) hn' ⟨v7, σ7, H7, R7.unpin, r7, q⟩)
  exact loop m0 n 0 ys s₀ s2 σ H2 hn w0 ⟨o, ho, acc, cc, r, I2⟩ st2 fun b hb => (f2 b hb).1
end
end Cc

/-! A generator def that raises nothing, drained by a comprehension [x for x in f(..)]. -/
namespace Cc
open PySem PySem.Spec PyProof.Rows L2 GenW
/-- no exception is promised -/
abbrev noE : XK := fun _ _ _ => False
/-- arguments, the heap, what is wanted of all items and the heap at the end -/
abbrev SpY := List V → Hp → (List V → Hp → Prop) → Prop
def StopY (P : Program) (w : World) (outer : List Env) (H : Hp) (s : Shared) (S C : Addr) (Q : List V → Hp → Prop) (s1 : Shared) : Prop :=
  ∃ H' ys acc c oC, s1.os = s.os ∧ AllBare s1.gens ∧ Un (frs outer) [] H H' s.heap s1.heap ∧ HOk P w H' s1.heap ∧ (H' S = none ∧ s1.heap.get? S = some (lstObj acc c)) ∧ (Vals ys acc.toList ∧ ys.length ≤ sizeLine) ∧ (H' C = none ∧ LocO C oC ∧ s1.heap.get? C = some oC) ∧ Q ys H'
def EndY (P : Program) (w : World) (outer : List Env) (H : Hp) (s : Shared) (S C a : Addr) (g : Nat) (Q : List V → Hp → Prop) : GenEnd := fun n s₀ r s1 =>
  ((r = .ok (.ret .none) ∨ r = .ok .next) ∧ StopY P w outer H s S C Q s1) ∨ ∃ e, r = .error e ∧ False
def ItemY (s : Shared) (S C a : Addr) (g : Nat) : Protocol := fun n s₀ v s1 kap =>
  s1.os = s.os ∧ AllBare s1.gens ∧ s1.heap.NoLimit ∧ s1.heap.IsGen a g ∧ (∃ (acc : Array Value) (c : Nat), s1.heap.get? S = some (lstObj acc c) ∧ n + 1 + acc.size = sizeLine) ∧ (∃ oC, LocO C oC ∧ s1.heap.get? C = some oC) ∧ ∀ s', Nap S C v s1 s' → kap (.send .none) s'
/-- a generator that has not begun -/
def MadeY (P : Program) (w : World) (k : Nat) (outer : List Env) (H : Hp) (s : Shared) (Q : List V → Hp → Prop) (u : Value) (s' : Shared) : Prop :=
  ∃ (a : Addr) (g : Nat) (c : Code), u = .ref a ∧ (s.heap.objs.size ≤ a ∧ a < s'.heap.objs.size) ∧ s'.heap.IsGen a g ∧ s'.gens[g]? = some (.fresh c) ∧ s'.os = s.os ∧ AllBare s'.gens ∧ s'.heap.NoLimit ∧ (∀ b o, s.heap.get? b = some o → s'.heap.get? b = some o) ∧
    ∀ (A : Around) (S C : Addr) (s2 : Shared), Room k A → A.frames = some outer → s'.heap.objs.size ≤ S → s'.heap.objs.size ≤ C → S ≠ C → (∀ b o, s'.heap.get? b = some o → s2.heap.get? b = some o) → (∃ c, s2.heap.get? S = some (lstObj #[] c)) → (∃ o, LocO C o ∧ s2.heap.get? C = some o) → s2.os = s.os → AllBare s2.gens →
      Seg (model P w) A (EndY P w outer H s S C a g Q) (ItemY s S C a g) sizeLine s2 c ((model P w).den c) [] s2
structure GenY (P : Program) (w : World) (K : PySem.W.Frag) (mg : Str → Option Value) (base : Heap) (k : Nat) (f : Addr) (fd : FuncData) (ps : List Str) (sp : SpY) : Prop where
  len : ∀ vs H Q, sp vs H Q → vs.length = ps.length
  run : ∀ (A : Around) (outer : List Env) (s : Shared) (H : Hp) (args : Args) (us : List Value) (vs : List V) (Q : List V → Hp → Prop), Room k A → Env0 P w K mg base A outer s H → BindsTo s fd args (ps.zip us) → Vals vs us → sp vs H Q →
    codeAny (model P w) A (.call (.ref f) args) (fun r s' => match r with | .ok (.ret u) => MadeY P w k outer H s Q u s' | _ => False) s
theorem geny_of {P : Program} {w : World} {K : PySem.W.Frag} {mg : Str → Option Value} {base : Heap} {k : Nat} {f : Addr} {name qual : Str} {params : Arguments} {body : List Stmt} {scope : Scope} {dV kV doc pm cdv ct oc : Value} {an od : Option Addr}
    {osl : Array (Option Value)} {N ps : List Str} {sp : SpY} (lk : K.lookup f = some ⟨oc, od, .func (PySem.W.fnOf name qual params body scope dV kV doc pm an cdv ct), osl⟩) (hcd : PySem.W.codeIn K cdv qual = true) (G : GScope N ps scope) (len : ∀ vs H Q, sp vs H Q → vs.length = ps.length)
    (hbody : ∀ (A : Around) (outer : List Env) (s : Shared) (H : Hp) (vs : List V) (Q : List V → Hp → Prop) (pn : List (Addr × Obj)), Room k (A.deeper (envOfC qual scope s.heap.objs.size f cdv)) → sp vs H Q →
      ∃ t, Goes (gcxOf P w K mg base N qual scope f cdv A outer s H noE pn) (execs body (gcxOf P w K mg base N qual scope f cdv A outer s H noE pn).env) t ∧ t { nx := fun ys _ H' => Q ys H', rt := fun ys v H' => v = .non ∧ Q ys H' } [] (start N vs) H) :
    GenY P w K mg base (k + 1) f (PySem.W.fnOf name qual params body scope dV kV doc pm an cdv ct) ps sp := by
  refine ⟨len, fun A outer s H args us vs Q hr e0 hb r hsp => ?_⟩
  have hl := len _ _ _ hsp
  have inK : K.In s.heap := e0.mod.kin.keeps fun b o e => (e0.bs b o e).1
  have nolim : s.heap.NoLimit := e0.mod.nolimit.keeps fun b o e => (e0.bs b o e).1
  refine codeAny_call_generator hr.depth (inK _ _ lk) rfl G.co G.gen rfl (PySem.W.codeRec_of inK hcd) (hb _ _ _ _ ?_)
  refine wpAny_newFunctionEnv_cells G.kind (fun ⟨y, v⟩ hy => (G.par y (List.of_mem_zip hy).1).imp id fun q => ⟨q, PySem.W.cellsFrom_some _ _ _ (.inl q)⟩) fun env he s1 x => ?_
  subst he
  have nolim1 : s1.heap.NoLimit := nolim.keeps x.toInCall.keep
  refine ⟨nolim1, ?_⟩
  obtain ⟨h1, tk1, es1, hk1⟩ := x.done
  have osE : s1.os = s.os := by rw [es1]
  have genE : s1.gens = s.gens := by rw [es1]
  have ltE : s.heap.objs.size < s1.heap.objs.size := x.toInCall.ns.lt
  have main : ∀ (gob : Obj) (n1 n2 : Value) (tk2 : Nat), gob.cls = .type "generator" → gob.data = .fields #[.int s1.gens.size 0, n1, n2] → gob.slots = #[] → (∀ h : Heap, (h.push gob).get? h.objs.size = some gob) →
      MadeY P w (k + 1) outer H s Q (.ref s1.heap.objs.size) { s1 with gens := s1.gens.push (.fresh (.func body (envOfC qual scope s.heap.objs.size f cdv))), toks := tk2, heap := s1.heap.push gob } := by
    intro gob n1 n2 tk2 y1 y2 y3 y4
    have isG : ∀ h : Heap, h.get? s1.heap.objs.size = some gob → h.IsGen s1.heap.objs.size s1.gens.size := fun h e => ⟨gob, n1, n2, e, y1, y2, y3⟩
    refine ⟨s1.heap.objs.size, s1.gens.size, _, rfl, ⟨Nat.le_of_lt ltE, ?_⟩, isG _ (y4 _), Array.getElem?_push_size .., osE, ?_, nolim1.keeps fun b o e => Heap.get?_push_of_some _ e, fun b o e => Heap.get?_push_of_some _ (x.toInCall.keep b o e), ?_⟩
    · show s1.heap.objs.size < (s1.heap.push gob).objs.size
      rw [Heap.size_push]
      exact Nat.lt_succ_self _
    · exact AllBare.push (by rw [genE]; exact e0.bare) rfl
    intro Aw S C s2 hrw hfr hS hC hSC old hSo hCo hos hba
    have e2 : Env0 P w K mg base Aw outer s H := ⟨hfr, e0.mod, e0.bs, e0.bsz, e0.funs, e0.frf, e0.hok, e0.bare⟩
    obtain ⟨t, ht, hq⟩ := hbody Aw outer s H vs Q [(s1.heap.objs.size, gob)] (hrw.deeper _) hsp
    have I1 : Inv (gcxOf P w K mg base N qual scope f cdv Aw outer s H noE []) [] (start N vs) H s1 := inv_startG G hrw.hd e2 hl r x
    have old1 : ∀ b o, s1.heap.get? b = some o → s2.heap.get? b = some o := fun b o e => old b o (Heap.get?_push_of_some _ e)
    have I2 : Inv (gcxOf P w K mg base N qual scope f cdv Aw outer s H noE []) [] (start N vs) H s2 :=
      I1.call' (ch := []) (hos.trans osE.symm) (Un.kept old1) (I1.hok.kept old1) hba fun b z => nomatch z
    have above : ∀ b, (s1.heap.push gob).objs.size ≤ b → s1.heap.objs.size < b := fun b hb => by
      rw [Heap.size_push] at hb
      exact hb
    have ltS := above S hS
    have ltC := above C hC
    obtain ⟨cS, eS⟩ := hSo
    obtain ⟨oC, hoC, eC⟩ := hCo
    have young : ∀ b, s1.heap.objs.size ≤ b → H b = none ∧ b ≠ s.heap.objs.size ∧ b ∉ frs outer ∧ s.heap.objs.size ≤ b ∧ ∀ y c, (cellsFrom (s.heap.objs.size + 1) scope.names []).lookup y = some c → c ≠ b := fun b hb =>
      ⟨I1.hok.fresh hb, Nat.ne_of_gt (Nat.lt_of_lt_of_le ltE hb), I1.nofs hb, Nat.le_trans (Nat.le_of_lt ltE) hb, fun y c e z => by
        obtain ⟨v, ox, hox, _⟩ := I1.cell y c e
        have lt := Heap.lt_size hox
        rw [z] at lt
        exact Nat.lt_irrefl _ (Nat.lt_of_lt_of_le lt hb)⟩
    have ap : ∀ b, s1.heap.objs.size < b → Apart (gcxOf P w K mg base N qual scope f cdv Aw outer s H noE [(s1.heap.objs.size, gob)]) b := fun b hb =>
      let ⟨_, z2, _, z4, z5⟩ := young b (Nat.le_of_lt hb)
      ⟨z4, z2, z5⟩
    have far : Far (gcxOf P w K mg base N qual scope f cdv Aw outer s H noE [(s1.heap.objs.size, gob)]) S C [] :=
      ⟨hSC, ap S ltS, ap C ltC, fun p hp => by rw [List.mem_singleton.mp hp]; exact Nat.ne_of_lt ltS, fun p hp => by rw [List.mem_singleton.mp hp]; exact Nat.ne_of_lt ltC⟩
    have R0 : Run (gcxOf P w K mg base N qual scope f cdv Aw outer s H noE [(s1.heap.objs.size, gob)]) S C [] [] (start N vs) H s2 := by
      refine ⟨oC, hoC, #[], cS, .nil, Inv.pinnedG I2 fun p hp => ?_⟩
      rcases List.mem_append.mp hp with zl | zr
      · rw [List.mem_singleton.mp zl]
        obtain ⟨z1, z2, z3, _⟩ := young s1.heap.objs.size (Nat.le_refl _)
        exact ⟨old _ _ (y4 _), z1, z2, z3, fun v q => by rw [y2] at q; cases q⟩
      · rcases List.mem_cons.mp zr with zh | zt
        · rw [zh]
          obtain ⟨z1, z2, z3, _⟩ := young S (Nat.le_of_lt ltS)
          exact ⟨eS, z1, z2, z3, fun v q => by cases q⟩
        · rw [List.mem_singleton.mp zt]
          obtain ⟨z1, z2, z3, _⟩ := young C (Nat.le_of_lt ltC)
          exact ⟨eC, z1, z2, z3, hoC.2⟩
    -- what a state of the run tells
    have told : ∀ {ip : List (Addr × Obj)} {ys : List V} {s' : Shared} {σ' : L2.St} {H' : Hp}, Run (gcxOf P w K mg base N qual scope f cdv Aw outer s H noE [(s1.heap.objs.size, gob)]) S C ip ys σ' H' s' →
        s'.os = s.os ∧ AllBare s'.gens ∧ s'.heap.NoLimit ∧ s'.heap.IsGen s1.heap.objs.size s1.gens.size ∧ Un (frs outer) [] H H' s.heap s'.heap ∧ HOk P w H' s'.heap ∧ ∃ acc c o, (H' S = none ∧ s'.heap.get? S = some (lstObj acc c)) ∧ Vals ys acc.toList ∧ (H' C = none ∧ LocO C o ∧ s'.heap.get? C = some o) := fun {ip ys s' σ' H'} ⟨o, ho, acc, c, ra, J⟩ => by
      have zS := J.pin (S, lstObj acc c) (List.mem_append_right _ List.mem_cons_self)
      have zC := J.pin (C, o) (List.mem_append_right _ (List.mem_cons_of_mem _ List.mem_cons_self))
      exact ⟨J.os, J.bare, J.nolimit, isG _ (J.pin (s1.heap.objs.size, gob) (List.mem_append_left _ List.mem_cons_self)).1, J.base, J.hok, acc, c, o, ⟨zS.2.1, zS.1⟩, ra, zC.2.1, ho, zC.1⟩
    refine seg_func (seg_imp (R := RP (gcxOf P w K mg base N qual scope f cdv Aw outer s H noE [(s1.heap.objs.size, gob)]) S C (fun ys v H' => v = .non ∧ Q ys H') fun _ _ => False)
      (Y := YP (gcxOf P w K mg base N qual scope f cdv Aw outer s H noE [(s1.heap.objs.size, gob)]) S C) (fun n s₀ r s3 hR => ?_) (fun n s₀ v s3 kap kap' hkk hY => ?_) sizeLine ?_)
    · cases r with
      | error e => exact hR.elim
      | ok fl =>
        cases fl with
        | next => exact hR.elim
        | brk => exact hR.elim
        | cont => exact hR.elim
        | ret u =>
          obtain ⟨ys, v, ip, σz, H', hn, hI, rv, ev, hQ⟩ := hR
          subst ev
          cases (show u = Value.none from rv)
          obtain ⟨t1, t2, _, _, t5, t6, acc, c, o, t7, t8, t9⟩ := told hI
          exact .inl ⟨.inl rfl, H', ys, acc, c, o, t1, t2, t5, t6, t7, ⟨t8, by omega⟩, t9, hQ⟩
    · obtain ⟨ys, xx, ip, σ', H', hn, _, hI, h3⟩ := hY
      obtain ⟨t1, t2, t3, t4, _, _, acc, c, o, t7, t8, t9⟩ := told hI
      have many : acc.size = ys.length := by
        have z1 := t8.length
        rw [Array.length_toList] at z1
        exact z1.symm
      exact ⟨t1, t2, t3, t4, ⟨acc, c, t7.2, by rw [many]; exact hn⟩, ⟨o, t9.2⟩, fun s' z => hkk _ _ (h3 s' z)⟩
    · refine ht Aw S C [] _ sizeLine [] s2 _ [] _ _ id id s2 (start N vs) H _ ⟨far, over_func, rfl, rfl, rfl⟩ (Nat.add_zero _) ⟨fun n ys s₀ s' fl hn hs => ?_, fun n s₀ e s' hx => ?_⟩ R0 hq
      · cases fl with
        | next =>
          obtain ⟨σ', H', hI, hQ⟩ := hs
          exact seg_end (.ok (.ret .none)) ⟨ys, .non, _, σ', H', hn, hI, rfl, rfl, hQ⟩
        | ret u =>
          obtain ⟨v, σz, H', hI, rv, ev, hQ⟩ := hs
          exact seg_end (.ok (.ret u)) ⟨ys, v, _, σz, H', hn, hI, rv, ev, hQ⟩
        | brk => exact hs.elim fun _ q => q.elim fun _ q => q.2.elim
        | cont => exact hs.elim fun _ q => q.elim fun _ q => q.2.elim
      · refine seg_wrap ?_
        rw [over_func]
        refine wpAny_mono (show wpAny (model P w) (Aw.deeper (envOfC qual scope s.heap.objs.size f cdv)) (leaving (envOfC qual scope s.heap.objs.size f cdv) e) (fun _ s3 => CX P w outer H s noE e s3 ∧ ∀ p ∈ [(s1.heap.objs.size, gob)], s3.heap.get? p.1 = some p.2) (fun _ _ => False) s' from hx) (fun _ s3 q => ?_) fun _ s3 q => q.elim
        obtain ⟨⟨_, _, _, _, _, _, _, _, _, _, _, _, z⟩, _⟩ := q
        exact z.elim
  exact main _ _ _ _ rfl rfl rfl fun _ => Heap.get?_push_size _ rfl
section
variable {X : Cx} {k : Nat}
structure PGenY (X : Cx) (k : Nat) (e : Expr) (tg : TGen) : Prop where
  run : ∀ (pins : List (Addr × Obj)) (s : Shared) (σ : L2.St) (H : Hp) (cont : List V → Hp → Prop), Inv X pins σ H s → tg σ H cont → wpAny (model X.prog X.w) X.A (eval e X.env) (fun u s' => ∃ H1 sc, Inv X pins σ H1 sc ∧ MadeY X.prog X.w k X.stack H1 sc cont u s') X.xe s
def tCallY (sp : SpY) (t : TA) : TGen := fun σ H cont => t σ H fun vs H1 => sp vs H1 cont
theorem pgy_call {f : Addr} {fd : FuncData} {ps : List Str} {sp : SpY} {x : Str} {p pos' : Pos} {e : Expr} {es : List Expr} {t : TA} (F : GenY X.prog X.w X.K X.mg X.base k f fd ps sp) (hr : Room k X.A) (hg : Gl X x) (hm : X.mg x = some (.ref f)) (hk : PySem.W.keepIn X.K (.ref f) = true) (hb : Binds X.K fd ps [])
    (ha : PA X (e :: es) t) (he : starEach (e :: es) X.env = (false, eval e X.env) :: starEach es X.env := by rfl) (hpl : (backTo pos' (starEach es X.env)).any (·.1) = false := by rfl) (hdb : (x == ("__debug__" : Str)) = false := by decide) :
    PGenY X k (.Call (.Name x p) (e :: es) [] pos') (tCallY sp t) := by
  refine ⟨fun pins s σ H cont I h => wpAny_Call_Name_kw (ld_glob I hg hm ?_ hdb)⟩
  refine PySem.W.callWith_K (h₀ := X.base) I.ok.mod.kin hk (thn (ha.run pos' pins s σ H _ I h) fun us z1 ⟨vs, H1, I1, r, q⟩ => ⟨I1.kIn, ?_⟩) he hpl
  have hl : us.length = ps.length := by
    rw [← r.length]
    exact F.len _ _ _ q
  have bt := hb z1 us I1.kIn (by rw [List.append_nil]; exact hl)
  rw [List.append_nil] at bt
  refine wpAny_call (codeAny_mono (F.run X.A X.stack z1 H1 ⟨us, []⟩ us vs cont hr I1.env0 bt r q) fun z s2 hz => ?_)
  cases z with
  | error e => exact hz.elim
  | ok fl =>
    cases fl with
    | ret u => exact ⟨H1, z1, I1, hz⟩
    | next => exact hz.elim
    | brk => exact hz.elim
    | cont => exact hz.elim
theorem lcY_core {pins : List (Addr × Obj)} {s : Shared} {σ : L2.St} {H : Hp} {Q : VK} {e : Expr} {tg : TGen} {x : Str} {p1 p2 pos pos' : Pos} {sc : Scope} {own : List (Str × Nat)} {use : Option (Value → Sem Unit)} {Qf : Value → Shared → Prop} (hgen : PGenY X k e tg) (hr : Room (k + 1) X.A) (hN : X.N.Nodup) (ok : BlkOk X.N X.env.scope sc own) (hx : sc.names.lookup x = some .local)
    (hdb : (x == ("__debug__" : Str)) = false) (hs : ∀ y, foldedSetIterable e X.env y = pure y) (I : Inv X pins σ H s) (h : tListG tg σ H Q)
    (hRR : ∀ D C z m G, Inv X pins σ G z → Q (.ref D) G → z.heap.Ns C m → FpOk X pins G C → compPost (model X.prog X.w) X.A X.xe use Qf (.ref D) C (.ok .next) z) :
    wpAny (model X.prog X.w) X.A (comprehension (.ListComp (.Name x p1) [⟨.Name x p2, e, [], 0⟩] sc pos) sc X.env pos' (newList []) false (eval e X.env) use) Qf X.xe s := by
  have frees : ∀ y ∈ sc.names, y.2 = .free → ∃ c, X.env.cells.lookup y.1 = some c := fun y hy e => I.ok.has _ ((ok.free y hy e).elim (fun a => .inl a) fun a => .inr a)
  refine wpAny_comprehension_free (use := use) rfl hs (closure_ok frees) ok.kind (fun y hy e => (ok.uniq y hy).trans (congrArg some e)) (thn (hgen.run pins s σ H _ I h) fun u s1 ⟨H1, sc0, I1, a, g, cd, eu, ⟨ge1, ge2⟩, hg, hgs, hos, hb, hl, old, wake⟩ => ?_)
  subst eu
  refine wpAny_pyIter_gen hg (wpAny_newObj_type (newEnv_comp ?_) (by show 0 ≤ sizeLine; decide))
  obtain ⟨D, hD⟩ : ∃ D, D = s1.heap.objs.size := ⟨_, rfl⟩
  rw [← hD]
  have I2 : Inv X pins σ H1 s1 := I1.call' (ch := []) hos (Un.kept old) (I1.hok.kept old) hb fun b z => nomatch z
  obtain ⟨s3, hs3⟩ : ∃ s3 : Shared, s3 = { s1 with heap := s1.heap.push { cls := .type "list", data := .seq ([] : List Value).toArray } } := ⟨_, rfl⟩
  have p3 : s3.heap = s1.heap.push { cls := .type "list", data := .seq ([] : List Value).toArray } := by rw [hs3]
  have keep3 : ∀ b o, s1.heap.get? b = some o → s3.heap.get? b = some o := fun b o e => by
    rw [p3]
    exact Heap.get?_push_of_some (h := s1.heap) _ e
  have at3 : s3.heap.get? D = some (lstObj #[] 0) := by
    rw [p3, hD]
    exact Heap.get?_push_size s1.heap rfl
  have I3 : Inv X pins σ (upd H1 D (.lst [])) s3 := by
    rw [hs3]
    refine I2.laid (t' := s1.toks) (fun b o e => Heap.get?_push_of_some _ e) (Nat.le_of_eq hD.symm) ⟨Nat.zero_le _, [], 0, .nil, ?_⟩
    rw [hD]
    exact Heap.get?_push_size s1.heap rfl
  have I4 := block_start (fp := []) I3 ok hN fun b hb => nomatch hb
  have goal : codeAny (model X.prog X.w) X.A (.compStart (.ListComp (.Name x p1) [⟨.Name x p2, e, [], 0⟩] sc pos) 0 (.ref a) (.ref D) (compEnvC sc (cellsFrom (s3.heap.objs.size + 1) sc.names (cloFrom X.env.cells sc.names [])) s3.heap.objs.size X.env))
      (compPost (model X.prog X.w) X.A X.xe use Qf (.ref D) s3.heap.objs.size) { s3 with heap := pushCells (s3.heap.push { cls := .type "dict", data := .dict #[] }) sc.names } := by
    have hkx : (compEnvC sc (cellsFrom (s3.heap.objs.size + 1) sc.names (cloFrom X.env.cells sc.names [])) s3.heap.objs.size X.env).kindOf x = some .local := lookup_relabel_local hx
    have hkf : (compEnvC sc (cellsFrom (s3.heap.objs.size + 1) sc.names (cloFrom X.env.cells sc.names [])) s3.heap.objs.size X.env).scope.kind = .function := ok.kind
    have hlo : (compEnvC sc (cellsFrom (s3.heap.objs.size + 1) sc.names (cloFrom X.env.cells sc.names [])) s3.heap.objs.size X.env).locals = s3.heap.objs.size := rfl
    obtain ⟨ce, hce⟩ : ∃ ce, ce = compEnvC sc (cellsFrom (s3.heap.objs.size + 1) sc.names (cloFrom X.env.cells sc.names [])) s3.heap.objs.size X.env := ⟨_, rfl⟩
    rw [← hce] at I4 hkx hkf hlo ⊢
    obtain ⟨C, hC⟩ : ∃ C, C = s3.heap.objs.size := ⟨_, rfl⟩
    rw [← hC] at hlo ⊢
    obtain ⟨m4, ns4, _⟩ := I4.loc
    have ns4 : (pushCells (s3.heap.push { cls := .type "dict", data := .dict #[] }) sc.names).Ns ce.locals m4 := ns4
    rw [hlo] at ns4
    have szD : s3.heap.objs.size = D + 1 := by rw [p3, Heap.size_push, hD]
    have nDC : D ≠ C := by
      rw [hC, szD]
      exact Nat.ne_of_lt (Nat.lt_succ_self D)
    have keep4 : ∀ b o, s3.heap.get? b = some o → (pushCells (s3.heap.push { cls := .type "dict", data := .dict #[] }) sc.names).get? b = some o := fun b o e => pushCells_keeps _ _ _ _ (Heap.get?_push_of_some _ e)
    obtain ⟨s4, hs4⟩ : ∃ s4 : Shared, s4 = { s3 with heap := pushCells (s3.heap.push { cls := .type "dict", data := .dict #[] }) sc.names } := ⟨_, rfl⟩
    have h4 : s4.heap = pushCells (s3.heap.push { cls := .type "dict", data := .dict #[] }) sc.names := by rw [hs4]
    have g4 : s4.gens = s1.gens := by rw [hs4, hs3]
    have o4 : s4.os = s1.os := by rw [hs4, hs3]
    rw [← hs4]
    rw [← h4] at ns4 keep4
    have old4 : ∀ b o, s1.heap.get? b = some o → s4.heap.get? b = some o := fun b o e => keep4 b o (keep3 b o e)
    have hg4 : s4.heap.IsGen a g := hg.keeps old4
    have locOf : ∀ {h : Heap} {m : Str → Option Value}, h.Ns C m → ∃ o, LocO C o ∧ h.get? C = some o := fun {h m} ⟨o, es, ep, e, ed, r⟩ => ⟨o, ⟨⟨m, fun h' e' => ⟨o, es, ep, e', ed, r⟩⟩, fun v q => by rw [ed] at q; cases q⟩, e⟩
    have naD : a ≠ D := Nat.ne_of_lt (by rw [hD]; exact ge2)
    have naC : a ≠ C := Nat.ne_of_lt (by rw [hC, szD, hD]; exact Nat.lt_succ_of_lt ge2)
    have lim0 : cStatics < s1.heap.objs.size := let ⟨_, hn, _⟩ := hl; hn.lt
    have nkD : cStatics ≠ D := by
      rw [hD]
      exact Nat.ne_of_lt lim0
    have nkC : cStatics ≠ C := by
      rw [hC, szD, hD]
      exact Nat.ne_of_lt (Nat.lt_succ_of_lt lim0)
    have loop : codeAny (model X.prog X.w) X.A (.compLoop (.ListComp (.Name x p1) [⟨.Name x p2, e, [], 0⟩] sc pos) 0 (.ref a) (.ref D) ce) (compPost (model X.prog X.w) X.A X.xe use Qf (.ref D) C) s4 := by
      refine compLoop_any (fun n z => ∃ gs, z.gens[g]? = some gs ∧ z.heap.IsGen a g ∧ z.heap.NoLimit ∧ gs.Goes (model X.prog X.w) X.A.in1 (EndY X.prog X.w X.stack H1 sc0 D C a g fun out H2 => ∀ p, H2 p = none → Q (.ref p) (upd H2 p (.lst out))) (ItemY sc0 D C a g) n (.send .none) (z.setGen g .running)) ?_ sizeLine
        ⟨.fresh cd, by rw [g4]; exact hgs, hg4, hl.keeps old4, rfl, ?_⟩
      · rintro n s5 ⟨gs, hgs5, hg5, hl5, hgo⟩
        have hgl : g < s5.gens.size := (Array.getElem?_eq_some_iff.mp hgs5).1
        refine wpAny_gsz (n := g + 1) hgl (next_genG (F := fun _ _ s₁ => StopY X.prog X.w X.stack H1 sc0 D C (fun out H2 => ∀ p, H2 p = none → Q (.ref p) (upd H2 p (.lst out))) s₁) (Er := fun _ _ => False) hr.hd hl5 (by have := hr.dp; omega) hg5 hgs5 hgo (fun v s6 gs' hbare hv hsz => ?_) (fun s6 hp h' hk _ => ?_) fun e s6 he => he.elim)
        · obtain ⟨t1, t2, t3, t4, ⟨acc, c, t5, t6⟩, ⟨oC, tC1, tC2⟩, kap⟩ := hv
          obtain ⟨⟨m6, hm6⟩, _⟩ := id tC1
          have ns6 : (s6.setGen g gs').heap.Ns ce.locals m6 := by
            rw [hlo]
            exact hm6 _ tC2
          refine wpAny_pure (wpAny_assign_Name (wpAny_storeName_local hkx ns6 (fun h7 ns7 sb7 => ?_) (by rw [hkf]; rfl)))
          refine wpAny_pure ?_
          refine ite_tt (wpAny_Name (wpAny_loadName_local hkf hkx ns7 (if_pos rfl) ?_) hdb)
          have pl7 : h7.PlainList D acc := ⟨c, (sb7.2 D (by rw [hlo]; exact nDC)).trans t5⟩
          refine wpAny_list_append_plain (s := { s6.setGen g gs' with heap := h7, toks := s6.toks + 1 }) pl7 (fun h8 pl8 sb8 => ?_) (by omega)
          obtain ⟨c8, e8⟩ := pl8
          have ns8 : h8.Ns C (fun y => if y = x then some v else m6 y) := (hlo ▸ ns7).sameBut sb8 nDC.symm
          have old8 : ∀ b o, b ≠ D → b ≠ C → s6.heap.get? b = some o → h8.get? b = some o := fun b o n1 n2 e => (sb8.2 b n1).trans ((sb7.2 b (by rw [hlo]; exact n2)).trans e)
          have hsz6 : g < s6.gens.size := by
            have q : (s6.setGen g gs').gens.size = s6.gens.size := setGen_size _ _ _
            have hsz' : g + 1 ≤ (s6.setGen g gs').gens.size := hsz
            omega
          have nap : Nap D C v s6 (({ s6.setGen g gs' with heap := h8, toks := s6.toks + 1 } : Shared).setGen g .running) :=
            ⟨rfl, allBare_setGen (s := { s6.setGen g gs' with heap := h8, toks := s6.toks + 1 }) (allBare_setGen t2 hbare) rfl, old8, fun acc' c' e' => by
              rw [t5] at e'
              cases e'
              exact ⟨c8, e8⟩, locOf ns8⟩
          have kp := kap _ nap
          match n, kp with
          | 0, kp => exact kp.elim
          | m + 1, kp =>
            refine ⟨m, Nat.lt_succ_self m, gs', setGen_at hsz6, ?_, ?_, kp⟩
            · obtain ⟨o, nm, qn, ho, r⟩ := t4
              exact ⟨o, nm, qn, old8 a o naD naC ho, r⟩
            · obtain ⟨mc, hns, hnn⟩ := t3
              exact ⟨mc, hns.at' fun o e => old8 _ o nkD nkC e, hnn⟩
        · obtain ⟨H', ys, acc, c, oC, t1, t2, t3, t4, ⟨t5, t6⟩, ⟨t7, t8⟩, ⟨t9, t10, t11⟩, t12⟩ := hp
          obtain ⟨⟨mC, hmC⟩, _⟩ := t10
          have le : sc0.heap.objs.size ≤ D := by
            rw [hD]
            exact Nat.le_trans ge1 (Nat.le_of_lt ge2)
          have J : Inv X pins σ (upd H' D (.lst ys)) { s6.setGen g .finished with heap := h' } :=
            I1.drained le t8 (hk _ _ t6) t7 ExOk.nil t1 (allBare_setGen t2 rfl) (t3.trans (Un.kept hk)) (t4.kept hk) t5
          exact hRR D C _ mC _ J (t12 D t5) (hmC _ (hk _ _ t11)) (I3.fpOk (b := C) (Nat.le_of_eq hC.symm) (H' := upd H' D (.lst ys)) (by rw [upd_ne nDC.symm]; exact t9))
      · refine wake X.A.in1 D C (s4.setGen g .running) ⟨hr.hd, ?_, ?_⟩ I1.ok.frames (Nat.le_of_eq hD.symm) (by rw [hC, szD, hD]; exact Nat.le_succ _) nDC old4 ⟨0, keep4 _ _ at3⟩ (locOf ns4) (o4.trans hos) (allBare_setGen (by rw [g4]; exact hb) rfl)
        · have := hr.dp
          show X.A.depth + 3 * k + 5 < _
          omega
        · have := hr.un
          show X.A.units + 1 + 16 * k + 200 < _
          omega
    exact codeAny_compStart_list loop (wpAny_pyIter_gen hg4 loop)
  exact hs3 ▸ goal
theorem pe_lcY {e : Expr} {tg : TGen} {x : Str} {p1 p2 pos : Pos} {sc : Scope} {own : List (Str × Nat)} (hgen : PGenY X k e tg) (hr : Room (k + 1) X.A) (hN : X.N.Nodup) (ok : BlkOk X.N X.env.scope sc own) (hx : sc.names.lookup x = some .local)
    (hdb : (x == ("__debug__" : Str)) = false := by decide) (hs : ∀ y, foldedSetIterable e X.env y = pure y := by intro _; rfl) : PE X (.ListComp (.Name x p1) [⟨.Name x p2, e, [], 0⟩] sc pos) (tListG tg) := by
  refine ⟨fun pins s σ H Q I h => ?_⟩
  rw [eval_ListComp]
  refine lcY_core hgen hr hN ok hx hdb hs I h fun D C s' m H' I' q hn f => ⟨m, hn, fun h'' sb => ?_⟩
  obtain ⟨a0, a1, a2, a3, a4, a5⟩ := f
  exact ⟨.ref D, H', I'.turned (t' := s'.toks) (fun b o hb e => (sb.2 b hb).trans e) a0 a1 a3 a4 a5, rfl, q⟩
/-- name = [x for x in f(..)] on one line, the name a local -/
theorem ps_setLcY {i : Nat} {y : Str} {py : Pos} {e : Expr} {tg : TGen} {x : Str} {p1 p2 pos spos : Pos} {sc : Scope} {own : List (Str × Nat)} (hgen : PGenY X k e tg) (hr : Room (k + 1) X.A) (hN : X.N.Nodup) (hy : X.N[i]? = some y) (hyl : X.env.scope.names.lookup y = some .local)
    (hsw : swapsWith (.ListComp (.Name x p1) [⟨.Name x p2, e, [], 0⟩] sc pos) (some (.Name y py)) spos.line X.env = pure true) (ok : BlkOk X.N X.env.scope sc own) (hx : sc.names.lookup x = some .local)
    (hdb : (x == ("__debug__" : Str)) = false := by decide) (hs : ∀ y, foldedSetIterable e X.env y = pure y := by intro _; rfl) : PS X (.Assign [.Name y py] (.ListComp (.Name x p1) [⟨.Name x p2, e, [], 0⟩] sc pos) spos) (tAsg (tListG tg) (gName i)) := by
  refine ⟨fun pins s σ H D I h => ?_⟩
  rw [exec_Assign_Name_used _ _ _ _ hsw]; refine wpAny_bind (wpAny_standAt (wpAny_bind ?_))
  show wpAny _ X.A (do let _ ← comprehension (.ListComp (.Name x p1) [⟨.Name x p2, e, [], 0⟩] sc pos) sc X.env (firstIterPos [⟨.Name x p2, e, [], 0⟩] pos) (newList []) false (eval e X.env) (some (assign (.Name y py) X.env))) _ _ s
  have h : tListG tg σ H (fun x H1 => gName i x σ H1 D.nx) := h
  refine wpAny_bind (thn (lcY_core (Qf := fun _ s' => SP X pins D .next s') hgen hr hN ok hx hdb hs I h fun D' C s' m H' I' q hn f => ?_) fun _ s' hq => wpAny_pure (wpAny_pure hq))
  show wpAny _ _ (assign (.Name y py) X.env (.ref D')) _ _ _
  refine wpAny_assign_Name (store_ok2 (v := V.ref D') I' hN hy (.inl hyl) rfl (fun s2 I2 ⟨a, sb, ha⟩ => ?_) (.inr hyl))
  obtain ⟨a0, a1, a2, a3, a4, a5⟩ := f
  have haC : C ≠ a := by
    rcases ha with z | z
    · rw [z]; exact a1
    · exact fun e => a4 y a z e.symm
  refine ⟨m, hn.sameBut sb haC, fun h3 sb3 => ⟨_, H', I2.turned (t' := s2.toks) (fun b o hb e => (sb3.2 b hb).trans e) a0 a1 a3 a4 a5, q⟩⟩
end
end Cc

/-! Lambdas as values (one parameter with a default, or none): kept in lists, called later by a def that catches what they raise. -/
namespace Cc
open PySem PySem.Spec PyProof.Rows L2
open LamX PySem.W
/-- a lambda's data, its defaults at dv -/
abbrev laFn (q : Str) (params : Arguments) (body : Expr) (scope : Scope) (cl : List (Str × Addr)) (pm dv cdv ct : Value) : FuncData := { kla_fn "<lambda>" q params body scope cl pm cdv ct with defaults := dv }
abbrev laObj (q : Str) (params : Arguments) (body : Expr) (scope : Scope) (cl : List (Str × Addr)) (pm dv : Value) (c' : Addr) (ctv : Value) : Obj := { cls := .type "function", data := .func (laFn q params body scope cl pm dv (.ref c') ctv) }
section
variable {M : Model} {A : Around} {E : Value → Shared → Prop} {s : Shared} {qual : Str} {params : Arguments} {body : Expr} {scope : Scope} {env : Env} {c P : Addr} {ps : Array Value} {pos : Pos} {n : Nat} {mg : Str → Option Value} {clos : List (Str × Addr)} {Q : Value → Shared → Prop} {dv : Value}
theorem la_new (hcl : closureFor scope env = pure clos) (hge : env.globals = mainGlobals) (hg : s.heap.Ns mainGlobals mg) (hcode : env.code = .ref c) (C : CodeHd s.heap c P) (hP : s.heap.get? P = some { cls := .none, data := .fields ps }) (ht : TriplesOk ps.toList)
    (hno : codeAmong pos ps.toList = none) (hgP : mainGlobals ≠ P) (hb : s.heap.BuiltinsAt mg P)
    (h : ∀ c' ctv h' tk, Heap.ExtBut P s.heap h' → s.heap.objs.size ≤ c' → c' < h'.objs.size → h'.CodeRec (.ref c') qual → h'.get? P = some { cls := .none, data := .fields (ps ++ #[rawInt pos.line, rawInt pos.col, .ref c']) } →
      Q (.ref h'.objs.size) { s with heap := h'.push (laObj qual params body scope clos ((mg "__name__").getD .none) dv c' ctv), toks := tk }) :
    wpAny M A (makeTail "<lambda>" qual params (.expr body) scope env dv .none none pos n) Q E s := by
  obtain ⟨bm, ob, b1, b2, _, b3, b4, b5, b6, b7⟩ := hb
  unfold makeTail
  rw [hcl, hge]
  refine wpAny_bind (wpAny_pure ?_); cases clos with
  | nil =>
    simp only [List.isEmpty_nil, if_true]; refine wpAny_bind (wpAny_pure (wpAny_bind (wpAny_functionCodeX hcode (C.code hP ht) (C.tab hP) hno fun c' h' tk hx hsz hlt _ hrec htb _ => ?_)))
    have g' := hg.extBut hx hgP
    exact wpAny_bind (wpAny_builtinsFor g' b1 b2 (hx _ _ b3 b4) b5 b6 b7 (wpAny_bind (wpAny_nsGet g' (wpAny_bind (wpAny_pure (wpAny_newObj_type (h c' .none h' tk hx hsz hlt hrec htb.2) (by size_fits)))))))
  | cons q r =>
    simp only [List.isEmpty_cons, Bool.false_eq_true, if_false]; refine wpAny_bind (wpAny_newTextTuple (wpAny_bind (wpAny_functionCodeX hcode ((C.keeps fun b o e => Heap.get?_push_of_some _ e).code (Heap.get?_push_of_some _ hP) ht) ((C.keeps fun b o e => Heap.get?_push_of_some _ e).tab (Heap.get?_push_of_some _ hP)) hno fun c' h' tk hx hsz hlt _ hrec htb _ => ?_)))
    have g' := (hg.push _).extBut hx hgP
    have hx2 : Heap.ExtBut P s.heap h' := fun b o nb e => hx b o nb (Heap.get?_push_of_some _ e)
    have hsz2 : s.heap.objs.size ≤ c' := Nat.le_trans (by rw [Heap.size_push]; exact Nat.le_succ _) hsz
    exact wpAny_bind (wpAny_builtinsFor g' b1 b2 (hx2 _ _ b3 b4) b5 b6 b7 (wpAny_bind (wpAny_nsGet g' (wpAny_bind (wpAny_pure (wpAny_newObj_type (h c' _ h' tk hx2 hsz2 hlt hrec htb.2) (by size_fits)))))))
theorem la_hit {c' : Addr} (hcl : closureFor scope env = pure clos) (hge : env.globals = mainGlobals) (hg : s.heap.Ns mainGlobals mg) (hcode : env.code = .ref c) (C : CodeHd s.heap c P) (hP : s.heap.get? P = some { cls := .none, data := .fields ps }) (ht : TriplesOk ps.toList)
    (hyes : codeAmong pos ps.toList = some (.ref c')) (hb : s.heap.BuiltinsAt mg P) (h : ∀ (ctv : Value) (h' : Heap) (tk : Tok), (∀ b o, s.heap.get? b = some o → h'.get? b = some o) → s.heap.objs.size ≤ h'.objs.size →
      Q (.ref h'.objs.size) { s with heap := h'.push (laObj qual params body scope clos ((mg "__name__").getD .none) dv c' ctv), toks := tk }) :
    wpAny M A (makeTail "<lambda>" qual params (.expr body) scope env dv .none none pos n) Q E s := by
  obtain ⟨bm, ob, b1, b2, _, b3, b4, b5, b6, b7⟩ := hb
  unfold makeTail
  rw [hcl, hge]
  refine wpAny_bind (wpAny_pure ?_); cases clos with
  | nil =>
    simp only [List.isEmpty_nil, if_true]; exact wpAny_bind (wpAny_pure (wpAny_bind (wpAny_functionCode_hit hcode (C.code hP ht) hyes (wpAny_bind (wpAny_builtinsFor hg b1 b2 b4 b5 b6 b7 (wpAny_bind (wpAny_nsGet hg (wpAny_bind (wpAny_pure (wpAny_newObj_type (h .none s.heap s.toks (fun _ _ e => e) (Nat.le_refl _)) (by size_fits)))))))))))
  | cons q r =>
    simp only [List.isEmpty_cons, Bool.false_eq_true, if_false]; refine wpAny_bind (wpAny_newTextTuple (wpAny_bind (wpAny_functionCode_hit hcode ((C.keeps fun b o e => Heap.get?_push_of_some _ e).code (Heap.get?_push_of_some _ hP) ht) hyes ?_)))
    have up : ∀ oT : Obj, s.heap.objs.size ≤ (s.heap.push oT).objs.size := fun oT => by rw [Heap.size_push]; exact Nat.le_succ _
    exact wpAny_bind (wpAny_builtinsFor (hg.push _) b1 b2 (Heap.get?_push_of_some _ b4) b5 b6 b7 (wpAny_bind (wpAny_nsGet (hg.push _) (wpAny_bind (wpAny_pure (wpAny_newObj_type (h _ _ s.toks (fun b o e => Heap.get?_push_of_some _ e) (up _)) (by size_fits)))))))
end
/-! ### the lambda as a value -/
def LamO (f : Addr) (q : Str) (params : Arguments) (body : Expr) (scope : Scope) (cl : List (Str × Addr)) (c' : Addr) (dv : Value) : HO := .ext fun h => ∃ pm ctv, h.get? f = some (laObj q params body scope cl pm dv c' ctv)
/-- a lambda at f, its defaults ds -/
def LamAt (H : Hp) (f : Addr) (q : Str) (params : Arguments) (body : Expr) (scope : Scope) (cl : List (Str × Addr)) (ds : List V) : Prop :=
  ∃ c' dv, H f = some (LamO f q params body scope cl c' dv) ∧ H c' = some (CodeO c' q) ∧ ((ds = [] ∧ dv = .none) ∨ ∃ T v, ds = [v] ∧ dv = .ref T ∧ H T = some (.tup [v]))
theorem lamO_ne {f : Addr} {q : Str} {params : Arguments} {body : Expr} {scope : Scope} {cl : List (Str × Addr)} {c' : Addr} {dv : Value} (ps : Array Value) : LamO f q params body scope cl c' dv ≠ .tbl ps := fun z => by
  unfold LamO at z
  cases z
theorem LamAt.ext {H H1 : Hp} {f : Addr} {q : Str} {params : Arguments} {body : Expr} {scope : Scope} {cl : List (Str × Addr)} {ds : List V} (h : LamAt H f q params body scope cl ds) (e : ExtN H H1) : LamAt H1 f q params body scope cl ds := by
  obtain ⟨c', dv, h1, h2, h3⟩ := h
  refine ⟨c', dv, e _ _ h1 lamO_ne, e _ _ h2 codeO_ne, h3.imp id fun ⟨T, v, z1, z2, z3⟩ => ⟨T, v, z1, z2, e _ _ z3 fun _ z => by cases z⟩⟩
def tLamV (T : List (Addr × Str)) (q : Str) (params : Arguments) (body : Expr) (scope : Scope) (cl : List (Str × Addr)) (ds : List V) : TE := fun σ H Q => Tabs T H ∧ ∀ f H1, H f = none → ExtN H H1 → Tabs T H1 → LamAt H1 f q params body scope cl ds → Q (.ref f) H1
section
variable {X : Cx} {pins : List (Addr × Obj)} {σ : L2.St} {H : Hp} {s : Shared} {T : List (Addr × Str)} {c P : Addr} {params : Arguments} {body : Expr} {scope : Scope} {pos : Pos}
/-- the made function is tracked -/
theorem lam_in {s' : Shared} {h' : Heap} {tk : Nat} {cl : List (Str × Addr)} {pm dv ctv : Value} {c' : Addr} {q : Str} (I : Inv X pins σ H { s' with heap := h', toks := tk }) :
    Inv X pins σ (upd H h'.objs.size (LamO h'.objs.size q params body scope cl c' dv)) { s' with heap := h'.push (laObj q params body scope cl pm dv c' ctv), toks := tk } :=
  I.laid (t' := tk) (fun b o e => Heap.get?_push_of_some _ e) (Nat.le_refl _) ⟨⟨_, _, Heap.get?_push_size _ rfl⟩, ⟨_, Heap.get?_push_size _ rfl⟩, fun h1 h2 ⟨pm, ctv, e⟩ st => ⟨pm, ctv, st _ e⟩⟩
theorem la_tail {dv : Value} {ds : List V} {E : Value → Shared → Prop} {Q : Value → Shared → Prop} (I : Inv X pins σ H s) (TB : TabB X.base X.mg c P) (hcode : X.env.code = .ref c) (hm : (P, X.env.qual ++ "<lambda>") ∈ T) (hu : ∀ p ∈ T, p.1 = P → p.2 = X.env.qual ++ "<lambda>") (hT : Tabs T H)
    (hfree : ∀ y ∈ scope.names, y.2 = .free → ∃ c, X.env.cells.lookup y.1 = some c) (hd : (ds = [] ∧ dv = .none) ∨ ∃ T v, ds = [v] ∧ dv = .ref T ∧ H T = some (.tup [v]))
    (h : ∀ (f : Addr) (H1 : Hp) (s' : Shared), H f = none → Inv X pins σ H1 s' → ExtN H H1 → Tabs T H1 → LamAt H1 f (X.env.qual ++ "<lambda>") params body scope (cloFrom X.env.cells scope.names []) ds → Q (.ref f) s') :
    wpAny (model X.prog X.w) X.A (makeTail "<lambda>" (X.env.qual ++ "<lambda>") params (.expr body) scope X.env dv .none none pos pos.line) Q E s := by
  obtain ⟨ps, hP, ht, ha⟩ := hT _ hm; have bP : s.heap.BuiltinsAt X.mg P := TB.bm.keeps I.bk
  have atP : s.heap.get? P = some { cls := .none, data := .fields ps } := I.hok P _ hP
  -- a fresh place told: all that is wanted
  have last : ∀ (f c' : Addr) (H1 : Hp) (s' : Shared), H f = none → H1 f = none → ExtN H H1 → Tabs T H1 → H1 c' = some (CodeO c' (X.env.qual ++ "<lambda>")) → Inv X pins σ (upd H1 f (LamO f (X.env.qual ++ "<lambda>") params body scope (cloFrom X.env.cells scope.names []) c' dv)) s' → Q (.ref f) s' := by
    intro f c' H1 s' nf nf1 eN T1 hc J
    have e1 : ∀ b o, H1 b = some o → upd H1 f (LamO f (X.env.qual ++ "<lambda>") params body scope (cloFrom X.env.cells scope.names []) c' dv) b = some o := fun b o e => by
      rw [upd_ne (ne_of_none e nf1)]
      exact e
    exact h f _ s' nf J (eN.trans (ExtN.of e1)) (T1.ext e1) ⟨c', dv, upd_same, e1 _ _ hc, hd.imp id fun ⟨t, v, z1, z2, z3⟩ => ⟨t, v, z1, z2, e1 _ _ (eN _ _ z3 fun _ z => by cases z)⟩⟩
  cases hck : codeAmong pos ps.toList with
  | none =>
    refine la_new (mg := X.mg) (c := c) (P := P) (ps := ps) (closure_ok hfree) I.ok.glob (I.mod.glob.keeps I.bk) hcode (TB.code.keeps I.bk) atP ht hck TB.gP bP fun c' ctv h' tk hx hge hlt hrec htb => ?_
    obtain ⟨c2, oc, vs, t, e2, hoc, hdat, hv⟩ := hrec
    cases e2
    have nC : H c' = none := I.hok.fresh hge; have J := inv_table (t' := tk) (more := #[rawInt pos.line, rawInt pos.col, .ref c']) (h' := h') I hP hx htb hge ⟨oc, vs, t, hoc, hdat, hv⟩
    have eN : ExtN H (upd (upd H P (.tbl (ps ++ #[rawInt pos.line, rawInt pos.col, .ref c']))) c' (CodeO c' (X.env.qual ++ "<lambda>"))) := fun b o e n => by
      have nP : b ≠ P := fun z => n ps (by rw [z, hP] at e; exact (Option.some.inj e).symm)
      rw [upd_ne (ne_of_none e nC), upd_ne nP]
      exact e
    have szf : s.heap.objs.size ≤ h'.objs.size := Nat.le_trans hge (Nat.le_of_lt hlt)
    have nf : H h'.objs.size = none := I.hok.fresh szf
    refine last h'.objs.size c' _ _ nf (J.hok.fresh (Nat.le_refl _)) eN (fun p hp => ?_) upd_same (lam_in J)
    by_cases hb : p.1 = P
    · rw [hu p hp hb, hb]
      have el : (ps ++ #[rawInt pos.line, rawInt pos.col, .ref c']).toList = ps.toList ++ [rawInt pos.line, rawInt pos.col, .ref c'] := by simp
      refine ⟨_, by rw [upd_ne (ne_of_none hP nC), upd_same], by rw [el]; exact PySem.TriplesOk_snoc _ _ _ _ ht, fun p' cv hcv => ?_⟩
      rw [el] at hcv; rcases among_app _ ht hcv with z | z
      · obtain ⟨c0, z1, z2⟩ := ha p' cv z
        exact ⟨c0, z1, eN _ _ z2 codeO_ne⟩
      · exact ⟨c', z, upd_same⟩
    · obtain ⟨ps2, a1, a2, a3⟩ := hT p hp
      refine ⟨ps2, by rw [upd_ne (ne_of_none a1 nC), upd_ne hb]; exact a1, a2, fun p' cv hcv => ?_⟩
      obtain ⟨c0, z1, z2⟩ := a3 p' cv hcv
      exact ⟨c0, z1, eN _ _ z2 codeO_ne⟩
  | some cv =>
    obtain ⟨c', e, hco⟩ := ha pos cv hck; subst e
    refine la_hit (mg := X.mg) (c := c) (P := P) (ps := ps) (closure_ok hfree) I.ok.glob (I.mod.glob.keeps I.bk) hcode (TB.code.keeps I.bk) atP ht hck bP fun ctv h' tk hx hsz => ?_
    have J : Inv X pins σ H { s with heap := h', toks := tk } := I.kept hx
    exact last h'.objs.size c' H _ (I.hok.fresh hsz) (J.hok.fresh (Nat.le_refl _)) (ExtN.refl H) hT hco (lam_in J)
theorem pe_lam0 (TB : TabB X.base X.mg c P) (hcode : X.env.code = .ref c) (hm : (P, X.env.qual ++ "<lambda>") ∈ T) (hu : ∀ p ∈ T, p.1 = P → p.2 = X.env.qual ++ "<lambda>") (hdef : defaultsOf params X.env = ([], [])) (hkw : params.kwonlyargs = [] := by rfl)
    (hfree : ∀ (ok : X.Ok), ∀ y ∈ scope.names, y.2 = .free → ∃ c, X.env.cells.lookup y.1 = some c) : PE X (.Lambda params body scope pos) (tLamV T (X.env.qual ++ "<lambda>") params body scope (cloFrom X.env.cells scope.names []) []) := by
  refine ⟨fun pins s σ H Q I h => kla_eval hdef ?_⟩
  rw [makeFunction_eq]
  simp only [List.zip_nil_right, List.filterMap_nil, List.isEmpty_nil, if_true, pure_bind]; exact la_tail I TB hcode hm hu h.1 (hfree I.ok) (.inl ⟨rfl, rfl⟩) fun f H1 s' nf J e1 e2 e3 => ⟨.ref f, H1, J, rfl, h.2 f H1 nf e1 e2 e3⟩
theorem pe_lam1 {e : Expr} {i : Int} (TB : TabB X.base X.mg c P) (hcode : X.env.code = .ref c) (hm : (P, X.env.qual ++ "<lambda>") ∈ T) (hu : ∀ p ∈ T, p.1 = P → p.2 = X.env.qual ++ "<lambda>") (hdef : defaultsOf params X.env = ([eval e X.env], [])) (he : PE X e (tC (.int i)))
    (hfree : ∀ (ok : X.Ok), ∀ y ∈ scope.names, y.2 = .free → ∃ c, X.env.cells.lookup y.1 = some c) : PE X (.Lambda params body scope pos) (tLamV T (X.env.qual ++ "<lambda>") params body scope (cloFrom X.env.cells scope.names []) [.int i]) := by
  refine ⟨fun pins s σ H Q I h => ?_⟩
  rw [arm_eval_Lambda, hdef]
  show wpAny _ _ (do let dv ← evalAll [eval e X.env]; let kdv ← holding dv (evalAllOpt []); makeFunction "<lambda>" (X.env.qual ++ "<lambda>") params (.expr body) scope X.env dv kdv [] pos pos.line) _ _ s
  refine wpAny_bind (wpAny_bind (thn (he.run pins s σ H (fun v H1 => v = .int i ∧ H1 = H) I ⟨rfl, rfl⟩) fun u s1 ⟨v, H1, I1, r1, e1, e2⟩ => ?_))
  subst e1 e2
  refine wpAny_bind (wpAny_holding (wpAny_pure (wpAny_pure (wpAny_bind (wpAny_holding (wpAny_pure ?_))))))
  rw [makeFunction_eq]
  simp only [List.zip_nil_right, List.filterMap_nil, List.isEmpty_nil, if_true, pure_bind, List.isEmpty_cons, Bool.false_eq_true, if_false]
  refine wpAny_bind (wpAny_newTextTuple ?_); have nT : H1 s1.heap.objs.size = none := I1.hok.fresh (Nat.le_refl _)
  have J : Inv X pins σ (upd H1 s1.heap.objs.size (.tup [.int i])) { s1 with heap := s1.heap.push { cls := .type "tuple", data := .seq [u].toArray } } :=
    I1.laid (t' := s1.toks) (fun b o e => Heap.get?_push_of_some _ e) (Nat.le_refl _) ⟨by show 1 ≤ sizeLine; decide, [u], .cons r1 .nil, ⟨_, Heap.get?_push_size _ rfl, rfl, _, rfl⟩⟩
  have e0 : ∀ b o, H1 b = some o → upd H1 s1.heap.objs.size (.tup [.int i]) b = some o := same_upd nT
  refine la_tail J TB hcode hm hu (h.1.ext e0) (hfree I.ok) (.inr ⟨s1.heap.objs.size, .int i, rfl, rfl, upd_same⟩) fun f H2 s' nf J2 g1 g2 g3 => ⟨.ref f, H2, J2, rfl, h.2 f H2 ?_ ((ExtN.of e0).trans g1) g2 g3⟩
  by_cases q : f = s1.heap.objs.size
  · rw [q]
    exact nT
  · rw [upd_ne q] at nf
    exact nf
end
end Cc

/-! A lambda called: its body runs among what it captured. -/
namespace Cc
open PySem PySem.Spec PyProof.Rows L2
open LamX
/-- its names: captured ones, globals, own parameters that are no names of the def around it -/
structure LamN (N : List Str) (sc scope : Scope) : Prop where
  kind : scope.kind = .function
  (co : scope.isCoroutine = false)
  (gen : scope.isGenerator = false)
  own : ∀ y ∈ scope.names, y.2 ≠ .cell ∧ (y.2 = .local → y.1 ∉ N)
  (free : ∀ y ∈ scope.names, y.2 = .free → sc.names.lookup y.1 = some .cell ∨ sc.names.lookup y.1 = some .free)
def lamNB (N : List Str) (sc scope : Scope) : Bool :=
  decide (scope.kind = .function) && !scope.isCoroutine && !scope.isGenerator && scope.names.all fun y => !decide (y.2 = .cell) && (!decide (y.2 = .local) || !N.contains y.1) && (!decide (y.2 = .free) || decide (sc.names.lookup y.1 = some .cell) || decide (sc.names.lookup y.1 = some .free))
theorem lamN_by {N : List Str} {sc scope : Scope} (h : lamNB N sc scope = true) : LamN N sc scope := by
  unfold lamNB at h
  simp only [Bool.and_eq_true, Bool.or_eq_true, Bool.not_eq_true', decide_eq_true_eq, decide_eq_false_iff_not, List.all_eq_true] at h; obtain ⟨⟨⟨h1, h2⟩, h3⟩, h4⟩ := h
  refine ⟨h1, h2, h3, fun y hy => ⟨(h4 y hy).1.1, fun e => ?_⟩, fun y hy e => ?_⟩
  · rcases (h4 y hy).1.2 with z | z
    · exact absurd e z
    · intro m
      rw [List.contains_iff_mem.mpr m] at z
      cases z
  · rcases (h4 y hy).2 with (z | z) | z
    · exact absurd e z
    · exact .inl z
    · exact .inr z
theorem LamN.has {X : Cx} {scope : Scope} (L : LamN X.N X.env.scope scope) (ok : X.Ok) : ∀ y ∈ scope.names, y.2 = .free → ∃ c, X.env.cells.lookup y.1 = some c := fun y hy e => ok.has _ (L.free y hy e)
section
variable {X : Cx} {pins : List (Addr × Obj)} {σ : L2.St} {H HZ : Hp}
variable {s s1 : Shared}
theorem la_start {A : Around} {outer : List Env} {E : XK} {scope : Scope} {f c' : Addr} {h₁ : Heap} {tk : Nat} {m : Str → Option Value} (I : Inv X pins σ H s) (L : LamN X.N X.env.scope scope) (e0 : Env0 X.prog X.w X.K X.mg X.base A outer s1 HZ) (hd : A.handled = none)
    (un : Un (frs X.stack) [] H HZ s.heap s1.heap) (hns : h₁.Ns s1.heap.objs.size m) (kp : ∀ b o, s1.heap.get? b = some o → h₁.get? b = some o) :
    Inv (lamCx X A outer s1 HZ E scope f c') ([] : List (Addr × Obj)) σ HZ { s1 with heap := h₁, toks := tk } := by
  have caught : ∀ {y c}, (cloFrom X.env.cells scope.names []).lookup y = some c → X.env.cells.lookup y = some c := fun {y c} e => by
    rcases cloFrom_mem (PySem.mem_of_lookup e) with hmm | ⟨h1, h2⟩
    · cases hmm
    · obtain ⟨c1, hc⟩ := L.has I.ok _ h1 rfl
      rw [h2, hc]
      rfl
  have seen : ∀ {y}, scope.names.lookup y = some .free → ∃ c, (cloFrom X.env.cells scope.names []).lookup y = some c := fun {y} hl => mem_lookup (cloFrom_has (cells := X.env.cells) (acc := []) (show (y, NameKind.free) ∈ scope.names from PySem.mem_of_lookup hl))
  have stays : ∀ {c : Addr} {v : Option Value}, H c = none → s.heap.IsCell c v → h₁.IsCell c v := fun {c v} n ⟨o, ho, hdat⟩ => by
    obtain ⟨sl, q⟩ := un.any ho n (fun z => nomatch z)
    exact ⟨_, kp _ _ q, hdat⟩
  have noX : ∀ b : Addr, b ∉ (lamCx X A outer s1 HZ E scope f c').ex := fun b z => nomatch (show b ∈ ([] : List Addr) from z)
  refine ⟨⟨e0.mod, L.kind, rfl, rfl, Nat.le_refl _, fun y z c e1 e2 => I.ok.inj y z c (caught e1) (caught e2), fun y hy => ?_, fun y c z _ => (nomatch (show false = true from z)), fun _ => hd, Around.frames_deeper e0.frames, .inr ⟨rfl, rfl⟩, fun b z => absurd z (noX b), e0.bs, e0.bsz, fun b _ _ => noX b,
      fun b z => absurd z (noX b), e0.funs, e0.frf⟩,
    rfl, e0.bare, Un.kept kp, ⟨_, hns, fun i y v e1 e2 e3 => ?_⟩, fun y c e => ?_, e0.hok.fresh (Nat.le_refl _), fun y c e => ?_, fun q hq => (nomatch (show q ∈ ([] : List (Addr × Obj)) from hq)), e0.hok.kept kp, I.len⟩
  · have hy : scope.names.lookup y = some .cell ∨ scope.names.lookup y = some .free := hy; rcases hy with hy | hy
    · exact absurd rfl (L.own _ (PySem.mem_of_lookup hy)).1
    · exact seen hy
  · have e3 : Vis scope y := e3
    rcases e3 with k | k | k
    · exact absurd (List.mem_of_getElem? e1) ((L.own _ (PySem.mem_of_lookup k)).2 rfl)
    · exact (L.own _ (PySem.mem_of_lookup k)).1 rfl |>.elim
    · obtain ⟨m0, hn, hl⟩ := I.loc
      have way := L.free _ (PySem.mem_of_lookup k) rfl
      obtain ⟨u, r, q⟩ := hl i y v e1 e2 (way.elim (fun k => .inr (.inl k)) fun k => .inr (.inr k))
      obtain ⟨c2, h2⟩ := seen k
      refine ⟨u, r, .inr ⟨.inr k, c2, h2, ?_⟩⟩; rcases q with ⟨k', _⟩ | ⟨_, c3, e', z⟩
      · have k' : X.env.scope.names.lookup y = some .local := k'; rcases way with k2 | k2
        · rw [k'] at k2
          cases k2
        · rw [k'] at k2
          cases k2
      · rw [caught h2] at e'
        cases e'
        exact stays (I.freeC y _ (caught h2)) z
  · obtain ⟨u, z⟩ := I.cell y c (caught e)
    exact ⟨u, stays (I.freeC y c (caught e)) z⟩
  · obtain ⟨v, o, ho, _⟩ := I.cell y c (caught e)
    exact un.free c o ho (I.freeC y c (caught e)) (fun z => nomatch z)
/-- how its arguments bind -/
def LamBind (params : Arguments) (body : Expr) (scope : Scope) (ds : List V) : Prop :=
  (ds = [] ∧ ∀ (q : Str) (cl : List (Str × Addr)) (pm cv ctv : Value), bindArgs (laFn q params body scope cl pm .none cv ctv) ⟨[], []⟩ = pure []) ∨
  (∃ x, scope.names.lookup x = some .local ∧ ∀ (q : Str) (cl : List (Str × Addr)) (pm cv ctv : Value) (T : Addr) (u : Value), ∃ k, bindArgs (laFn q params body scope cl pm (.ref T) cv ctv) ⟨[], []⟩ = seqItems? (.ref T) >>= k ∧ k (some #[u]) = pure [(x, u)])
/-- x(), x bound to the lambda, in a def called from where it was made -/
theorem la_act {CXg : CXT} {Eg : XK} {Ng : List Str} {qg : Str} {sg : Scope} {g f : Addr} {cdg : Value} {params : Arguments} {body : Expr} {scope : Scope} {ds : List V} {k i : Nat} {a : Str} {pn : List (Addr × Obj)} {xe : Value → Shared → Prop} {W : WX} {E : XK} {tb : TE} {p1 p2 : Pos}
    (I : Inv X pins σ H s) (L : LamN X.N X.env.scope scope) (hbind : LamBind params body scope ds) (hds : ds = [] → ∀ (q : Str) (cl : List (Str × Addr)) (pm cv ctv : Value), bindArgs (laFn q params body scope cl pm .none cv ctv) ⟨[], []⟩ = pure [])
    (tk : Takes ((cxOf CXg X.prog X.w X.K X.mg X.base Ng qg sg g cdg X.A X.stack s H Eg).tr pn xe) W) (hW : ∀ cls d σ' H', E cls d H' → W cls d σ' H') (hr : Room (k + 1) (X.A.deeper (envOfC qg sg s.heap.objs.size g cdg))) (hbody : ∀ (A : Around) (outer : List Env) (s : Shared) (H : Hp) (c' : Addr), Room k (A.deeper (lamEnv X scope s.heap.objs.size f c')) → PE (lamCx X A outer s H E scope f c') body tb)
    (hN : Ng[i]? = some a) (hv : Vis sg a) (hd : (a == ("__debug__" : Str)) = false := by decide) (hcd : (a == ("__classdict__" : Str)) = false := by decide) : PE ((cxOf CXg X.prog X.w X.K X.mg X.base Ng qg sg g cdg X.A X.stack s H Eg).tr pn xe) (.Call (.Name a p1) [] [] p2)
      (fun σZ HZ Q => σZ[i]? = some (some (.ref f)) ∧ LamAt HZ f (X.env.qual ++ "<lambda>") params body scope (cloFrom X.env.cells scope.names []) ds ∧ tb σ HZ Q) := by
  refine ⟨fun pinsZ sZ σZ HZ Q IZ ⟨hs, hlam, ht⟩ => ?_⟩
  refine wpAny_Call_Name_kw (thn ((pe_var (pos := p1) (i := i) hN hv hd hcd).run pinsZ sZ σZ HZ (fun v H1 => v = .ref f ∧ H1 = HZ) IZ ⟨.ref f, hs, rfl, rfl⟩) fun u z1 ⟨v, H1, I1, r1, ev, eH⟩ => ?_)
  subst ev
  subst eH
  cases (show u = Value.ref f from r1)
  obtain ⟨c', dv, hO, hC, hD⟩ := hlam
  obtain ⟨⟨pm, ctv, of1⟩, _, _⟩ := I1.hok f _ hO
  obtain ⟨⟨oc, vs, t, hoc, hdc, hvc⟩, _, _⟩ := I1.hok c' _ hC
  refine PySem.W.callWith_F0 ⟨_, _, _, _, of1⟩ ?_; have un : Un (frs X.stack) [] H H1 s.heap z1.heap := I1.base
  have bindsTo : ∀ {M : Model} {A' : Around} {Qb : List (Str × Value) → Shared → Prop} {Eb : Value → Shared → Prop}, (∀ binds : List (Str × Value), (∀ y ∈ binds, scope.names.lookup y.1 = some .local) → Qb binds z1) → wpAny M A' (bindArgs (laFn (X.env.qual ++ "<lambda>") params body scope (cloFrom X.env.cells scope.names []) pm dv (.ref c') ctv) ⟨[], []⟩) Qb Eb z1 := fun {M A' Qb Eb} hq => by
    rcases hD with ⟨e1, e2⟩ | ⟨T, v, e1, e2, e3⟩
    · subst e2
      rw [hds e1]
      exact wpAny_pure (hq [] fun y hy => nomatch hy)
    · subst e2
      rcases hbind with ⟨z, _⟩ | ⟨x, hx, hb⟩
      · rw [e1] at z
        cases z
      · obtain ⟨_, its, rits, o, ho, _, n, hdat⟩ := I1.hok T _ e3
        obtain ⟨u, eu, ru⟩ := rits.one
        obtain ⟨kk, k1, k2⟩ := hb (X.env.qual ++ "<lambda>") (cloFrom X.env.cells scope.names []) pm (.ref c') ctv T u
        rw [k1]
        refine wpAny_bind (wpAny_seqItems ho hdat ?_)
        rw [eu]
        show wpAny _ _ (kk (some #[u])) _ _ _
        rw [k2]
        exact wpAny_pure (hq _ fun y hy => by rw [List.mem_singleton.mp hy]; exact hx)
  have rc : codeAny (model X.prog X.w) (X.A.deeper (envOfC qg sg s.heap.objs.size g cdg)) (.call (.ref f) ⟨[], []⟩) (CR (L2.CX X.prog X.w) (envOfC qg sg s.heap.objs.size g cdg :: X.stack) X.prog X.w H1 z1 Q E) z1 := by
    refine PySem.W.kla_callFunE hr.depth of1 rfl L.co L.gen rfl ⟨c', oc, vs, t, rfl, hoc, hdc, hvc⟩ (bindsTo fun binds hbs => wpAny_newFunctionEnv (fun y hy => (L.own y hy).1) hbs (fun h₁ hns hsb => ⟨I1.nolimit.fresh _ hsb, ?_⟩) L.kind)
    show codeAny _ _ (.expr body (lamEnv X scope z1.heap.objs.size f c')) _ _
    have kp : ∀ b o, z1.heap.get? b = some o → h₁.get? b = some o := fun b o e => hsb.extBut b o (Nat.ne_of_lt (Heap.lt_size e)) (Heap.get?_push_of_some _ e)
    have J : Inv (lamCx X (X.A.deeper (envOfC qg sg s.heap.objs.size g cdg)) (envOfC qg sg s.heap.objs.size g cdg :: X.stack) z1 H1 E scope f c') [] σ H1 { z1 with heap := h₁, toks := z1.toks + binds.length } := la_start I L I1.env0 hr.hd un hns kp
    refine PySem.W.kla_codeExpr (wpAny_mono ((hbody _ _ z1 H1 c' (hr.deeper _)).run [] _ _ H1 Q J ht) (fun v s' q => ?_) fun e s' q => q)
    obtain ⟨x', H', J', rv, q⟩ := q
    exact ⟨x', H', J'.os, J'.bare, J'.base, J'.hok, rv, q⟩
  have ps : Passes (L2.CX X.prog X.w) ((cxOf CXg X.prog X.w X.K X.mg X.base Ng qg sg g cdg X.A X.stack s H Eg).tr pn xe) E := passes_call tk hW
  refine wpAny_call (codeAny_mono rc fun r s' q => ?_)
  cases r with
  | error e => exact ps pinsZ σZ H1 z1 e s' I1 q
  | ok fl =>
    cases fl with
    | ret u => exact I1.after q
    | next => exact q.elim
    | brk => exact q.elim
    | cont => exact q.elim
end
end Cc

/-! A comprehension whose element calls a def with a lambda: what stands around the comprehension is known within. -/
namespace Cc
open PySem PySem.Spec PyProof.Rows L2
open LamX
section
variable {X : Cx}
/-- a comprehension of one clause; its element is judged where the slots around are known -/
theorem pe_lcI {el ta ia : Expr} {fs : List Expr} {sc : Scope} {own : List (Str × Nat)} {ps : Pos} {wi : TI} {g : TG} {tt : TT} {te : L2.St → TE} (hc : X.calm = true) (hN : X.N.Nodup) (hi : PI X ta ia wi) (ok : BlkOk X.N X.env.scope sc own)
    (hg : ∀ (s : Shared) (H : Hp) (C : Addr) (cl : List (Str × Addr)) (fp : List Addr), PG (X.blk s H sc (compEnvC sc cl C X.env) fp) ta g)
    (ht : ∀ (s : Shared) (H : Hp) (C : Addr) (cl : List (Str × Addr)) (fp : List Addr), PTs (X.blk s H sc (compEnvC sc cl C X.env) fp) fs tt)
    (he : ∀ (pins : List (Addr × Obj)) (σ : L2.St) (s : Shared) (H : Hp) (C : Addr) (cl : List (Str × Addr)) (fp : List Addr), Inv X pins σ H s → (∀ b ∈ fp, FpOk X pins H b) → PE (X.blk s H sc (compEnvC sc cl C X.env) fp) el (te σ))
    (hs : ∀ x, foldedSetIterable ia X.env x = pure x := by intro _; rfl) :
    PE X (.ListComp el [⟨ta, ia, fs, 0⟩] sc ps) (fun σ H Q => tLc wi g tt (te σ) (own.map (·.2)) σ H Q) := by
  refine ⟨fun pz z0 sg G0 Qq K0 h => ?_⟩
  rw [eval_ListComp]
  have frees : ∀ y ∈ sc.names, y.2 = .free → ∃ c, X.env.cells.lookup y.1 = some c := fun y hy e => K0.ok.has _ (ok.free y hy e)
  refine wpAny_comprehension_free (use := none) rfl hs (closure_ok frees) ok.kind (fun y hy e => (ok.uniq y hy).trans (congrArg some e)) (thn (hi.run pz z0 sg G0 _ K0 h) fun _ z1 h1 => thn h1 fun iv z2 h2 => ?_)
  obtain ⟨it, fp, tn, Jt, G2, rfl, K2, T, t2, f2, q⟩ := h2
  refine wpAny_newObj_type (newEnv_comp ?_) (by show 0 ≤ sizeLine; decide); obtain ⟨D, hD⟩ : ∃ D, D = z2.heap.objs.size := ⟨_, rfl⟩
  rw [← hD]
  have freeD : G2 D = none := K2.hok.fresh (Nat.le_of_eq hD.symm)
  obtain ⟨W, ⟨m0, w0⟩, turn⟩ := q D freeD
  obtain ⟨z3, hz3⟩ : ∃ z3 : Shared, z3 = { z2 with heap := z2.heap.push { cls := .type "list", data := .seq ([] : List Value).toArray } } := ⟨_, rfl⟩
  have p3 : z3.heap = z2.heap.push { cls := .type "list", data := .seq ([] : List Value).toArray } := by rw [hz3]
  have keep3 : ∀ b o, z2.heap.get? b = some o → z3.heap.get? b = some o := fun b o e => by
    rw [p3]
    exact Heap.get?_push_of_some (h := z2.heap) _ e
  have K3 : Inv X pz sg (upd G2 D (.lst [])) z3 := by
    rw [hz3]
    refine K2.laid (t' := z2.toks) (fun b o e => Heap.get?_push_of_some _ e) (Nat.le_of_eq hD.symm) ⟨Nat.zero_le _, [], 0, .nil, ?_⟩
    rw [hD]
    exact Heap.get?_push_size z2.heap rfl
  have old : ∀ b ∈ fp, b < z2.heap.objs.size := fun b hb => (T.obj _ _ t2 b hb).elim fun _ e => Heap.lt_size e.1
  have f3 : ∀ b ∈ fp, FpOk X pz (upd G2 D (.lst [])) b ∧ b < z3.heap.objs.size := fun b hb =>
    ⟨⟨by rw [upd_ne (by rw [hD]; exact Nat.ne_of_lt (old b hb))]; exact (f2 b hb).1, (f2 b hb).2⟩, by rw [p3, Heap.size_push]; exact Nat.lt_succ_of_lt (old b hb)⟩
  have K4 := block_start K3 ok hN f3
  have Bg := hg z3 (upd G2 D (.lst [])) z3.heap.objs.size (cellsFrom (z3.heap.objs.size + 1) sc.names (cloFrom X.env.cells sc.names [])) fp
  have Bt := ht z3 (upd G2 D (.lst [])) z3.heap.objs.size (cellsFrom (z3.heap.objs.size + 1) sc.names (cloFrom X.env.cells sc.names [])) fp
  have Be := he pz sg z3 (upd G2 D (.lst [])) z3.heap.objs.size (cellsFrom (z3.heap.objs.size + 1) sc.names (cloFrom X.env.cells sc.names [])) fp K3 fun b hb => (f3 b hb).1
  have goal : codeAny (model X.prog X.w) X.A (.compStart (.ListComp el [⟨ta, ia, fs, 0⟩] sc ps) 0 (.ref it) (.ref D) (compEnvC sc (cellsFrom (z3.heap.objs.size + 1) sc.names (cloFrom X.env.cells sc.names [])) z3.heap.objs.size X.env))
      (compPost (model X.prog X.w) X.A X.xe none (EP X pz sg Qq) (.ref D) z3.heap.objs.size) { z3 with heap := pushCells (z3.heap.push { cls := .type "dict", data := .dict #[] }) sc.names } := by
    obtain ⟨ce, hce⟩ : ∃ ce, ce = compEnvC sc (cellsFrom (z3.heap.objs.size + 1) sc.names (cloFrom X.env.cells sc.names [])) z3.heap.objs.size X.env := ⟨_, rfl⟩
    rw [← hce] at K4 Bg Bt Be ⊢
    have lc : ce.locals = z3.heap.objs.size := by rw [hce]; rfl
    obtain ⟨G3, hG3⟩ : ∃ G3, G3 = upd G2 D (.lst []) := ⟨_, rfl⟩
    rw [← hG3] at K3 K4 Bg Bt Be w0 f3
    have nf3 : ∀ b ∈ fp, G3 b = none := fun b hb => (f3 b hb).1.1
    obtain ⟨z4, hz4⟩ : ∃ z4 : Shared, z4 = { z3 with heap := pushCells (z3.heap.push { cls := .type "dict", data := .dict #[] }) sc.names } := ⟨_, rfl⟩
    rw [← hz4] at K4 ⊢
    have t4 : tn 0 z4.heap := T.keep _ _ _ t2 fun b _ o e => by
      rw [hz4]
      exact pushCells_keeps _ _ _ _ (Heap.get?_push_of_some _ (keep3 b o e))
    have fpk : ∀ {sg' : L2.St} {G' : Hp} {z' : Shared}, Inv (X.blk z3 G3 sc ce fp) [] sg' G' z' → (∀ b ∈ fp, G' b = none) → ∀ b ∈ fp, FpOk (X.blk z3 G3 sc ce fp) [] G' b := fun Kk hn b hb =>
      ⟨hn b hb, (Kk.ok.exf b hb).1, Kk.ok.exfs b hb, .inl hb, fun x c e => (Kk.ok.exf b hb).2 x c e, fun p hp => by simp at hp⟩
    have loop : codeAny (model X.prog X.w) X.A (.compLoop (.ListComp el [⟨ta, ia, fs, 0⟩] sc ps) 0 (.ref it) (.ref D) ce) (compPost (model X.prog X.w) X.A X.xe none (EP X pz sg Qq) (.ref D) z3.heap.objs.size) z4 := by
      refine compLoop_any (fun n z => ∃ i G, Inv (X.blk z3 G3 sc ce fp) [] (wipe sg (own.map (·.2))) G z ∧ tn i z.heap ∧ (∀ b ∈ fp, G b = none) ∧ W i n G) ?_ m0 ⟨0, G3, K4, t4, nf3, w0⟩
      rintro n z5 ⟨i, G5, K5, t5, n5, w5⟩
      rcases turn i n G5 w5 with ⟨halt, qq⟩ | ⟨go, Nx, hNx, step⟩
      · refine thnF (T.done (X.blk z3 G3 sc ce fp) rfl rfl rfl hc i [] z5 _ G5 (fun _ _ => False) K5 (fpk K5 n5) t5 halt) fun r z6 ⟨hr, K6⟩ => ?_
        subst hr
        have K7 : Inv X pz sg G5 z6 := K3.call' (ch := fp) K6.os K6.base K6.hok K6.bare fun b hb => ⟨(f3 b hb).1.2.2.2.1, (f3 b hb).1.2.1, (f3 b hb).1.2.2.2.2.1, (f3 b hb).1.2.2.2.2.2⟩
        have nC : G5 z3.heap.objs.size = none := lc ▸ (show G5 ce.locals = none from K6.free)
        obtain ⟨m, hm, _⟩ := K6.loc
        have ff := K3.fpOk (Nat.le_refl _) nC
        refine ⟨m, lc ▸ (show z6.heap.Ns ce.locals m from hm), fun h'' sb => ?_⟩
        obtain ⟨a0, a1, _, a3, a4, a5⟩ := ff
        exact ⟨.ref D, G5, K7.turned (t' := z6.toks) (fun b o hb e => (sb.2 b hb).trans e) a0 a1 a3 a4 a5, rfl, qq⟩
      · refine thnF (T.item (X.blk z3 G3 sc ce fp) rfl rfl rfl hc i [] z5 _ G5 (fun _ _ => False) K5 (fpk K5 n5) t5 go) fun r z6 ⟨u, hr, h6⟩ => ?_
        subst hr
        refine thnF h6 fun _ z7 ⟨x, G7, K7, r7, y7, t7, n7⟩ => ?_
        refine thnF (Bg.run _ z7 _ G7 x u _ (K7.pinned (fpk K7 n7) (T.obj _ _ t7)) r7 (step x G7 y7)) fun _ z8 ⟨sg8, G8, K8, w8, q8⟩ => ?_
        refine thnF (Bt.run _ z8 sg8 G8 _ K8 q8) fun b z9 ⟨G9, K9, q9⟩ => ?_
        have fin : ∀ {z' : Shared} {G' : Hp}, Inv (X.blk z3 G3 sc ce fp) ([] ++ pinsAt fp z7.heap) sg8 G' z' → Nx G' → ∃ m, m < n ∧ ∃ i G, Inv (X.blk z3 G3 sc ce fp) [] (wipe sg (own.map (·.2))) G z' ∧ tn i z'.heap ∧ (∀ b ∈ fp, G b = none) ∧ W i m G := fun {z' G'} Kk nx => by
          obtain ⟨m', lt, w'⟩ := hNx G' nx
          have pin : ∀ b ∈ fp, ∀ o, z7.heap.get? b = some o → z'.heap.get? b = some o ∧ G' b = none := fun b hb o e =>
            let y := Kk.pin (b, o) (List.mem_append_right _ (List.mem_append_right _ (mem_pinsAt hb e)))
            ⟨y.1, y.2.1⟩
          refine ⟨m', lt, i + 1, G', (Kk.unpinned (pins := [])).weak (by rw [← w8, wipe_length]) (fun j v e => by rw [← w8] at e; exact (wipe_some e).1), T.keep _ _ _ t7 fun b hb o e => (pin b hb o e).1, fun b hb => ?_, w'⟩
          obtain ⟨o, e, _⟩ := T.obj _ _ t7 b hb
          exact (pin b hb o e).2
        cases b with
        | false =>
          simp only [Bool.false_eq_true, if_false] at q9 ⊢; exact fin K9 q9
        | true =>
          simp only [if_true] at q9 ⊢
          refine thnF (Be.run _ z9 sg8 G9 _ K9 q9) fun v z10 ⟨y, G10, K10, r10, acc, eD, room, nx⟩ => ?_
          exact app_ok (X := X.blk z3 G3 sc ce fp) K10 eD room r10 fun z11 K11 => fin K11 nx
    exact codeAny_compStart_list loop (T.self X.A 0 _ _ _ t4 loop)
  exact hz3 ▸ goal
end
end Cc

/-! What stands where lambdas were made: the code's table grows, all else stays. -/
namespace Cc
open PySem PySem.Spec PyProof.Rows L2
open LamX
theorem tabs_but {T : List (Addr × Str)} {H H' : Hp} {s : Addr} (t : Tabs T H) (b : But s H H') (hs : ∃ xs, H s = some (.lst xs)) : Tabs T H' := fun p hp => by
  obtain ⟨xs, hx⟩ := hs
  obtain ⟨ps, h1, h2, h3⟩ := t p hp
  refine ⟨ps, b _ _ (ne_of h1 hx fun z => nomatch z) h1, h2, fun pos cv hc => ?_⟩
  obtain ⟨c0, e1, e2⟩ := h3 pos cv hc
  exact ⟨c0, e1, b _ _ (ne_of e2 hx fun z => by unfold CodeO at z; cases z) e2⟩
theorem drawAt_extN {K : PySem.W.Frag} {H H' : Hp} {s : Addr} (h : DrawAt K H s) (e : ExtN H H') : DrawAt K H' s := by
  obtain ⟨a, ns, p, x, y, e1, q, l, z⟩ := h
  exact ⟨a, ns, p, x, y, e _ _ e1 (fun _ z => by cases z), q.keep fun b o u w => e _ _ w fun _ z => (by cases z), l, z⟩
theorem steps_extN {H H' : Hp} {vs : List V} {ss : List Stp} (h : Steps H vs ss) (e : ExtN H H') : Steps H' vs ss := h.mono fun t xs w => e _ _ w fun _ z => by cases z
theorem planAt_extN {C : Addr} {H H' : Hp} {p : Addr} {ss : List Stp} (h : PlanAt C H p ss) (e : ExtN H H') : PlanAt C H' p ss := by
  obtain ⟨dx, tp, ws, a, ⟨o, d0, b⟩, d⟩ := h
  exact ⟨dx, tp, ws, e _ _ a (fun _ z => by cases z), ⟨o, d0, e _ _ b (fun _ z => by cases z)⟩, steps_extN d e⟩
theorem extN_same {H H' : Hp} (s : Same H H') : ExtN H H' := fun b o e _ => s b o e
theorem extN_lst {H H' : Hp} {l : Addr} {xs : List V} (e : ExtN H H') (h : H l = some (.lst xs)) : H' l = some (.lst xs) := e _ _ h fun _ z => by cases z
theorem extN_none {H H' : Hp} {l : Addr} {xs : List V} (h : H l = none) (h' : H' l = some (.lst xs)) : H ≠ H' := fun z => by rw [z, h'] at h; cases h
/-- an append to a list: what else stands -/
theorem lamAt_but {H H' : Hp} {l f : Addr} {q : Str} {params : Arguments} {body : Expr} {scope : Scope} {cl : List (Str × Addr)} {ds : List V} (h : LamAt H f q params body scope cl ds) (b : But l H H') (hl : ∃ xs, H l = some (.lst xs)) : LamAt H' f q params body scope cl ds := by
  obtain ⟨xs, hx⟩ := hl
  obtain ⟨c', dv, h1, h2, h3⟩ := h
  refine ⟨c', dv, b _ _ (ne_of h1 hx fun z => by unfold LamO at z; cases z) h1, b _ _ (ne_of h2 hx fun z => by unfold CodeO at z; cases z) h2, h3.imp id fun ⟨T, v, z1, z2, z3⟩ => ⟨T, v, z1, z2, b _ _ (ne_of z3 hx fun z => nomatch z) z3⟩⟩
theorem but_app {H : Hp} {l : Addr} {o : HO} : But l H (upd H l o) := but_upd
/-- a refusal as data -/
abbrev noNum : PyData := .tuple [.str "InvalidNumber"]
def NoAt (H : Hp) (v : V) : Prop := ∃ t, v = .ref t ∧ H t = some (.tup [.str "InvalidNumber"])
theorem dp_no {K : PySem.W.Frag} {H : Hp} : ∀ {vs : List V}, (∀ v ∈ vs, NoAt H v) → DpAll K H vs (List.replicate vs.length noNum)
  | [], _ => .nil
  | v :: vs, h => by
    obtain ⟨t, rfl, ht⟩ := h v List.mem_cons_self
    exact .cons (.tup (SqT.of ht) (.cons (.str _) .nil)) (dp_no fun u hu => h u (List.mem_cons_of_mem _ hu))
theorem shaped_no : SeqAt.shaped (.list (List.replicate 5 noNum)) = true := by decide +kernel
theorem eqv_no : PyData.eqv (.list (List.replicate 5 noNum)) (.list (List.replicate 5 noNum)) = true := by decide +kernel
/-- the exceptions of the class at CN alone -/
def eN (CN : Addr) (E : XK) : XK := fun cls d H => cls = .ref CN ∧ E cls d H
end Cc

/-! The second part's outcome of a lambda: any of the nine errors. -/
namespace Cc
open PySem PySem.Spec PyProof.Rows L2
open LamX
abbrev sOutcome : Stmt := top 47
abbrev oN : List Str := ["_law_call", "e", "_law_kinds", "_law_words", "_law_word"]
theorem scOutcome : FnScope oN ["_law_call"] (defScope sOutcome) := ⟨rfl, rfl, rfl, by decide +kernel, rfl, by decide +kernel, by decide +kernel⟩
def hOut : List Stmt := match defBody sOutcome with
  | [.Try _ [.ExceptHandler _ _ b _] _ _ _] => b
  | _ => []
/-- what is told of an error: its word, and its field where the word has one -/
def Told (wd : Str) (d : Option Addr) (H : Hp) (r : List V) : Prop :=
  (inV (.str wd) [.str "operation", .str "plan", .str "few"] = true ∧ ∃ dd fs v, d = some dd ∧ H dd = some (.xd fs) ∧ fs.lookup ("index" : Str) = some v ∧ r = [.str wd, v]) ∨
  (inV (.str wd) [.str "operation", .str "plan", .str "few"] = false ∧ inV (.str wd) [.str "daybook", .str "text"] = true ∧ ∃ dd fs v, d = some dd ∧ H dd = some (.xd fs) ∧ fs.lookup ("row" : Str) = some v ∧ r = [.str wd, v]) ∨
  (inV (.str wd) [.str "operation", .str "plan", .str "few"] = false ∧ inV (.str wd) [.str "daybook", .str "text"] = false ∧ decide (V.str wd = V.str "code") = true ∧ ∃ dd fs v, d = some dd ∧ H dd = some (.xd fs) ∧ fs.lookup ("offset" : Str) = some v ∧ r = [.str wd, v]) ∨
  (inV (.str wd) [.str "operation", .str "plan", .str "few"] = false ∧ inV (.str wd) [.str "daybook", .str "text"] = false ∧ decide (V.str wd = V.str "code") = false ∧ r = [.str wd])
section
variable {K : PySem.W.Frag} {mg : Str → Option Value} {D e0 e1 e2 e3 e4 e5 e6 e7 e8 : Addr} {b0 b1 b2 b3 b4 b5 b6 b7 b8 : Bool} {j : Nat} {wd : Str}
def hRdA (a D : Addr) (wd : Str) (cls : Value) (d : Option Addr) : TS := fun De σ H => cls = .ref D ∧ (∃ x0 x2 x3 x4, σ = [x0, some (.ref a), x2, x3, x4]) ∧ (∀ dd, d = some dd → ∃ fs, H dd = some (.xd fs)) ∧ ∃ r, Told wd d H r ∧ ∀ p H', Same H H' → H' p = some (.tup r) → De.rt (.ref p) H'
theorem hand_any {P : Program} {w : World} {base : Heap} {fO a : Addr} {cdv cls : Value} {A : Around} {outer : List Env} {s : Shared} {H : Hp} {k : Nat} {oe : Obj} {d : Option Addr} {pn : List (Addr × Obj)} (NG : Nine mg e0 e1 e2 e3 e4 e5 e6 e7 e8) (KA : KindA K D e0 e1 e2 e3 e4 e5 e6 e7 e8 b0 b1 b2 b3 b4 b5 b6 b7 b8) (FL : Flags b0 b1 b2 b3 b4 b5 b6 b7 b8 j wd) (B : Bt mg)
    (hr : Room k (A.deeper (envOfC "_law_outcome" (defScope sOutcome) s.heap.objs.size fO cdv))) (hz0 : Zc cls d oe) (hf : ∃ vs, oe.data = .fields vs) :
    PSs ((cxOf CX0 P w K mg base oN "_law_outcome" (defScope sOutcome) fO cdv A outer s H E0).nox.suite a ((a, oe) :: pn)) hOut (hRdA a D wd cls d) := by
  refine ⟨fun pins z σ Hz De I ⟨e1, ⟨x0, x2, x3, x4, e3⟩, dx, r, tl, k⟩ => ?_⟩
  subst e1 e3
  have hz : Zc (.ref D) d oe := hz0
  suffices h : ∃ t, PSs ((cxOf CX0 P w K mg base oN "_law_outcome" (defScope sOutcome) fO cdv A outer s H E0).nox.suite a ((a, oe) :: pn)) hOut t ∧ t De [x0, some (.ref a), x2, x3, x4] Hz from let ⟨t, h1, h2⟩ := h; h1.run pins z _ Hz De I h2
  have h65 : ((cxOf CX0 P w K mg base oN "_law_outcome" (defScope sOutcome) fO cdv A outer s H E0).nox.suite a ((a, oe) :: pn)).A.units + 65 < cLine := by
    have z := room65 hr
    exact z
  refine ⟨_, pss_cons (ps_set (i := 2) scOutcome.nd rfl (.inl rfl) (pe_lst (pa_cons (pe_callB (call_isG KA.ec KA.tt KA.ss hz hf) (by rfl) B.isinstance (by decide +kernel) (pa_cons (pv 1) (pa_cons (pe_glob (v := .ref e0) rfl NG.t0 rfl) pa_nil))) (pa_cons (pe_callB (call_isG KA.ec KA.tt KA.ss hz hf) (by rfl) B.isinstance (by decide +kernel) (pa_cons (pv 1) (pa_cons (pe_glob (v := .ref e1) rfl NG.t1 rfl) pa_nil))) (pa_cons (pe_callB (call_isG KA.ec KA.tt KA.ss hz hf) (by rfl) B.isinstance (by decide +kernel) (pa_cons (pv 1) (pa_cons (pe_glob (v := .ref e2) rfl NG.t2 rfl) pa_nil))) pa_nil)))))
      (pss_cons (ps_expr (pe_bm PySem.F.plainAttrs_list PySem.F.slot_list_extend PySem.F.type_list_extend mt_extend (pv 2) (pa_cons (pe_lst (pa_cons (pe_callB (call_isG KA.ec KA.tt KA.ss hz hf) (by rfl) B.isinstance (by decide +kernel) (pa_cons (pv 1) (pa_cons (pe_glob (v := .ref e3) rfl NG.t3 rfl) pa_nil))) (pa_cons (pe_callB (call_isG KA.ec KA.tt KA.ss hz hf) (by rfl) B.isinstance (by decide +kernel) (pa_cons (pv 1) (pa_cons (pe_glob (v := .ref e4) rfl NG.t4 rfl) pa_nil))) (pa_cons (pe_callB (call_isG KA.ec KA.tt KA.ss hz hf) (by rfl) B.isinstance (by decide +kernel) (pa_cons (pv 1) (pa_cons (pe_glob (v := .ref e5) rfl NG.t5 rfl) pa_nil))) pa_nil)))) pa_nil)))
      (pss_cons (ps_expr (pe_bm PySem.F.plainAttrs_list PySem.F.slot_list_extend PySem.F.type_list_extend mt_extend (pv 2) (pa_cons (pe_lst (pa_cons (pe_callB (call_isG KA.ec KA.tt KA.ss hz hf) (by rfl) B.isinstance (by decide +kernel) (pa_cons (pv 1) (pa_cons (pe_glob (v := .ref e6) rfl NG.t6 rfl) pa_nil))) (pa_cons (pe_callB (call_isG KA.ec KA.tt KA.ss hz hf) (by rfl) B.isinstance (by decide +kernel) (pa_cons (pv 1) (pa_cons (pe_glob (v := .ref e7) rfl NG.t7 rfl) pa_nil))) (pa_cons (pe_callB (call_isG KA.ec KA.tt KA.ss hz hf) (by rfl) B.isinstance (by decide +kernel) (pa_cons (pv 1) (pa_cons (pe_glob (v := .ref e8) rfl NG.t8 rfl) pa_nil))) pa_nil)))) pa_nil)))
      (pss_cons (ps_if (PW.pt (pw_or (pt_cmpR op_ne (pe_bm PySem.F.plainAttrs_list PySem.F.slot_list_count PySem.F.type_list_count (mt_countL h65) (pv 2) (pa_cons pe_bl pa_nil)) pe_int (nomark _)) (pw_or1 (pt_not (pt_val (pe_callB (call_isG KA.ec KA.tt KA.ss hz hf) (by rfl) B.isinstance (by decide +kernel) (pa_cons (pv 1) (pa_cons (pe_bltn (v := .ty "ValueError") (by rfl) B.verr (by decide +kernel) rfl) pa_nil))))))))
        (pss_one (ps_ret (pe_tup (pa_cons pe_str pa_nil)))) pss_nil)
      (pss_cons (ps_set (i := 3) scOutcome.nd rfl (.inl rfl) (pe_lst (pa_cons pe_str (pa_cons pe_str (pa_cons pe_str (pa_cons pe_str (pa_cons pe_str (pa_cons pe_str (pa_cons pe_str (pa_cons pe_str (pa_cons pe_str pa_nil)))))))))))
      (pss_cons (ps_set (i := 4) scOutcome.nd rfl (.inl rfl) (pe_ix ix_list (pv 3) (pe_bm PySem.F.plainAttrs_list PySem.F.slot_list_index PySem.F.type_list_index (mt_indexD h65) (pv 2) (pa_cons pe_bl pa_nil)) (fun _ _ => rfl)))
      (pss_cons (ps_if (pt_cmpR op_in_seq (pv 4) (pe_tup (pa_cons pe_str (pa_cons pe_str (pa_cons pe_str pa_nil)))) (by rfl))
        (pss_one (ps_ret (pe_tup (pa_cons (pv 4) (pa_cons (pe_xf KA.xf KA.nI hz hf (pv 1)) pa_nil))))) pss_nil)
      (pss_cons (ps_if (pt_cmpR op_in_seq (pv 4) (pe_tup (pa_cons pe_str (pa_cons pe_str pa_nil))) (by rfl))
        (pss_one (ps_ret (pe_tup (pa_cons (pv 4) (pa_cons (pe_xf KA.xf KA.nR hz hf (pv 1)) pa_nil))))) pss_nil)
      (pss_one (ps_ret (pe_ifExp (pt_cmpR op_eq (pv 4) pe_str (nomark _)) (pe_tup (pa_cons (pv 4) (pa_cons (pe_xf KA.xf KA.nO hz hf (pv 1)) pa_nil))) (pe_tup (pa_cons (pv 4) pa_nil)))))))))))), ?_⟩
  have dk : ∀ H', Same Hz H' → ∀ dd, d = some dd → ∃ fs, H' dd = some (.xd fs) := fun H' s dd e => let ⟨fs, q⟩ := dx dd e; ⟨fs, s _ _ q⟩
  refine ⟨_, rfl, .ref e0, _, b0, rfl, dx, fun u h => h, KA.k0, _, rfl, .ref e1, _, b1, rfl, dx, fun u h => h, KA.k1, _, rfl, .ref e2, _, b2, rfl, dx, fun u h => h, KA.k2, by show 3 ≤ sizeLine; decide, fun l1 h1 => ?_⟩
  have s1 := same_upd (o := .lst [.bl b0, .bl b1, .bl b2]) h1
  have g1 := upd_same (H := Hz) (a := l1) (o := .lst [.bl b0, .bl b1, .bl b2])
  generalize upd Hz l1 (.lst [.bl b0, .bl b1, .bl b2]) = H1 at *
  refine ⟨_, rfl, .inl ⟨rfl, _, SqL.of g1⟩, _, rfl, .ref e3, _, b3, rfl, dk _ s1, fun u h => h, KA.k3, _, rfl, .ref e4, _, b4, rfl, dk _ s1, fun u h => h, KA.k4, _, rfl, .ref e5, _, b5, rfl, dk _ s1, fun u h => h, KA.k5, by show 3 ≤ sizeLine; decide, fun l2 h2 => ?_⟩
  refine ⟨l1, l2, _, _, rfl, rfl, (same_upd h2) _ _ g1, upd_same, by show 6 ≤ sizeLine; decide, ?_⟩
  have nx : ∀ (H' : Hp) (zs : List V), Same Hz H' → Same Hz (upd H' l1 (.lst zs)) := fun H' zs s b o e => by
    rw [upd_ne (ne_of_none e h1)]
    exact s _ _ e
  have s2 := nx _ [.bl b0, .bl b1, .bl b2, .bl b3, .bl b4, .bl b5] (s1.trans (same_upd (o := .lst [.bl b3, .bl b4, .bl b5]) h2))
  have g2 := upd_same (H := upd H1 l2 (.lst [.bl b3, .bl b4, .bl b5])) (a := l1) (o := .lst [.bl b0, .bl b1, .bl b2, .bl b3, .bl b4, .bl b5])
  simp only [List.cons_append, List.nil_append]
  generalize upd (upd H1 l2 (.lst [.bl b3, .bl b4, .bl b5])) l1 (.lst [.bl b0, .bl b1, .bl b2, .bl b3, .bl b4, .bl b5]) = H2 at *
  refine ⟨_, rfl, .inl ⟨rfl, _, SqL.of g2⟩, _, rfl, .ref e6, _, b6, rfl, dk _ s2, fun u h => h, KA.k6, _, rfl, .ref e7, _, b7, rfl, dk _ s2, fun u h => h, KA.k7, _, rfl, .ref e8, _, b8, rfl, dk _ s2, fun u h => h, KA.k8, by show 3 ≤ sizeLine; decide, fun l3 h3 => ?_⟩
  refine ⟨l1, l3, _, _, rfl, rfl, (same_upd h3) _ _ g2, upd_same, by show 9 ≤ sizeLine; decide, ?_⟩
  have s3 := nx _ [.bl b0, .bl b1, .bl b2, .bl b3, .bl b4, .bl b5, .bl b6, .bl b7, .bl b8] (s2.trans (same_upd (o := .lst [.bl b6, .bl b7, .bl b8]) h3))
  have g3 := upd_same (H := upd H2 l3 (.lst [.bl b6, .bl b7, .bl b8])) (a := l1) (o := .lst [.bl b0, .bl b1, .bl b2, .bl b3, .bl b4, .bl b5, .bl b6, .bl b7, .bl b8])
  simp only [List.cons_append, List.nil_append]
  generalize upd (upd H2 l3 (.lst [.bl b6, .bl b7, .bl b8])) l1 (.lst [.bl b0, .bl b1, .bl b2, .bl b3, .bl b4, .bl b5, .bl b6, .bl b7, .bl b8]) = H3 at *
  have dp : ∀ H', DpAll K H' [.bl b0, .bl b1, .bl b2, .bl b3, .bl b4, .bl b5, .bl b6, .bl b7, .bl b8] [.bool b0, .bool b1, .bool b2, .bool b3, .bool b4, .bool b5, .bool b6, .bool b7, .bool b8] := fun H' => .cons (.bl _) (.cons (.bl _) (.cons (.bl _) (.cons (.bl _) (.cons (.bl _) (.cons (.bl _) (.cons (.bl _) (.cons (.bl _) (.cons (.bl _) .nil))))))))
  refine ⟨_, rfl, .inl ⟨rfl, _, SqL.of g3⟩, l1, _, .bl true, .bool true, _, rfl, rfl, SqL.of g3, dp _, .bl _, FL.sh, by decide +kernel, FL.pl, by decide +kernel, ?_⟩
  rw [FL.one]
  refine ⟨rfl, _, rfl, iteF ?_⟩
  refine ⟨_, rfl, .ty "ValueError", _, true, rfl, dk _ s3, fun u h => h, KA.kv, _, rfl, iteF ?_⟩
  refine ⟨by show 9 ≤ sizeLine; decide, fun l4 h4 => ?_⟩
  have s4 := s3.trans (same_upd (o := .lst [.str "daybook", .str "code", .str "booking", .str "number", .str "operation", .str "plan", .str "text", .str "enough", .str "few"]) h4)
  have g4 := (same_upd (o := .lst [.str "daybook", .str "code", .str "booking", .str "number", .str "operation", .str "plan", .str "text", .str "enough", .str "few"]) h4) _ _ g3
  have w4 := upd_same (H := H3) (a := l4) (o := .lst [.str "daybook", .str "code", .str "booking", .str "number", .str "operation", .str "plan", .str "text", .str "enough", .str "few"])
  generalize upd H3 l4 (.lst [.str "daybook", .str "code", .str "booking", .str "number", .str "operation", .str "plan", .str "text", .str "enough", .str "few"]) = H4 at *
  refine ⟨_, rfl, _, rfl, .inl ⟨rfl, _, SqL.of g4⟩, l1, .bl true, .bool true, _, j, .bool true, rfl, rfl, .lst (SqL.of g4) (dp _), .bl _, FL.sh, by decide +kernel, FL.at_, by decide +kernel, FL.no, l4, _, _, .str wd, rfl, rfl, SqL.of w4, at_of (j := j) rfl FL.wd, ?_⟩
  have tk : ∀ {H' dd fs}, Same Hz H' → Hz dd = some (.xd fs) → H' dd = some (.xd fs) := fun s e => s _ _ e
  refine ⟨_, rfl, by show 3 ≤ sizeLine; decide, fun l5 h5 => ⟨l5, _, rfl, .inr (SqT.of upd_same), rfl, rfl, _, rfl, ?_⟩⟩
  have s5 := s4.trans (same_upd (o := .tup [.str "operation", .str "plan", .str "few"]) h5)
  generalize upd H4 l5 (.tup [.str "operation", .str "plan", .str "few"]) = H5 at *
  rcases tl with ⟨f1, dd, fs, v, ed, ex, el, er⟩ | tl
  · subst er ed
    exact ifT f1 ⟨_, rfl, _, rfl, rfl, rfl, dd, fs, v, rfl, tk s5 ex, el, by show 2 ≤ sizeLine; decide, fun p hp => k p _ (s5.trans (same_upd hp)) upd_same⟩
  have f1 : inV (.str wd) [.str "operation", .str "plan", .str "few"] = false := by
    rcases tl with q | q | q
    · exact q.1
    · exact q.1
    · exact q.1
  refine ifF f1 ⟨_, rfl, by show 2 ≤ sizeLine; decide, fun l6 h6 => ⟨l6, _, rfl, .inr (SqT.of upd_same), rfl, rfl, _, rfl, ?_⟩⟩
  have s6 := s5.trans (same_upd (o := .tup [.str "daybook", .str "text"]) h6)
  generalize upd H5 l6 (.tup [.str "daybook", .str "text"]) = H6 at *
  rcases tl with ⟨_, f2, dd, fs, v, ed, ex, el, er⟩ | ⟨_, f2, f3, dd, fs, v, ed, ex, el, er⟩ | ⟨_, f2, f3, er⟩
  · subst er ed
    exact ifT f2 ⟨_, rfl, _, rfl, rfl, rfl, dd, fs, v, rfl, tk s6 ex, el, by show 2 ≤ sizeLine; decide, fun p hp => k p _ (s6.trans (same_upd hp)) upd_same⟩
  · subst er ed
    exact ifF f2 ⟨_, rfl, rfl, _, rfl, ifT f3 ⟨_, rfl, _, rfl, rfl, rfl, dd, fs, v, rfl, tk s6 ex, el, by show 2 ≤ sizeLine; decide, fun p hp => k p _ (s6.trans (same_upd hp)) upd_same⟩⟩
  · subst er
    exact ifF f2 ⟨_, rfl, rfl, _, rfl, ifF f3 ⟨_, rfl, by show 1 ≤ sizeLine; decide, fun p hp => k p _ (s6.trans (same_upd hp)) upd_same⟩⟩
end
/-- a lambda at f of this def, and what its call does -/
def CanAct (X : Cx) (k : Nat) (σ : L2.St) (f : Addr) (E : XK) (H : Hp) (Q : VK) : Prop :=
  ∃ (params : Arguments) (body : Expr) (scope : Scope) (ds : List V) (tb : TE), LamAt H f (X.env.qual ++ "<lambda>") params body scope (cloFrom X.env.cells scope.names []) ds ∧ LamN X.N X.env.scope scope ∧ LamBind params body scope ds ∧
    (ds = [] → ∀ (q : Str) (cl : List (Str × Addr)) (pm cv ctv : Value), bindArgs (laFn q params body scope cl pm .none cv ctv) ⟨[], []⟩ = pure []) ∧
    (∀ (A : Around) (outer : List Env) (s : Shared) (H : Hp) (c' : Addr), Room k (A.deeper (lamEnv X scope s.heap.objs.size f c')) → PE (lamCx X A outer s H E scope f c') body tb) ∧ tb σ H Q
theorem pe_can {X : Cx} {pins : List (Addr × Obj)} {σ : L2.St} {H : Hp} {s : Shared} {CXg : CXT} {Eg : XK} {Ng : List Str} {qg : Str} {sg : Scope} {g f : Addr} {cdg : Value} {k i : Nat} {a : Str} {pn : List (Addr × Obj)} {xe : Value → Shared → Prop} {W : WX} {E : XK} {p1 p2 : Pos}
    (I : Inv X pins σ H s) (tk : Takes ((cxOf CXg X.prog X.w X.K X.mg X.base Ng qg sg g cdg X.A X.stack s H Eg).tr pn xe) W) (hW : ∀ cls d σ' H', E cls d H' → W cls d σ' H') (hr : Room (k + 1) (X.A.deeper (envOfC qg sg s.heap.objs.size g cdg)))
    (hN : Ng[i]? = some a) (hv : Vis sg a) (hd : (a == ("__debug__" : Str)) = false := by decide) (hcd : (a == ("__classdict__" : Str)) = false := by decide) : PE ((cxOf CXg X.prog X.w X.K X.mg X.base Ng qg sg g cdg X.A X.stack s H Eg).tr pn xe) (.Call (.Name a p1) [] [] p2) (fun σZ HZ Q => σZ[i]? = some (some (.ref f)) ∧ CanAct X k σ f E HZ Q) := by
  refine ⟨fun pinsZ sZ σZ HZ Q IZ ⟨hs, params, body, scope, ds, tb, h1, h2, h3, h4, h5, h6⟩ => ?_⟩
  exact (la_act (i := i) I h2 h3 h4 tk hW hr h5 hN hv hd hcd).run pinsZ sZ σZ HZ Q IZ ⟨hs, h1, h6⟩
/-- an own error, its word -/
def IsKind (K : PySem.W.Frag) (CE e0 e1 e2 e3 e4 e5 e6 e7 e8 D : Addr) (wd : Str) : Prop := PySem.W.exmOne K (.ref D) (.ref CE) = some true ∧ ∃ (b0 b1 b2 b3 b4 b5 b6 b7 b8 : Bool) (j : Nat), KindA K D e0 e1 e2 e3 e4 e5 e6 e7 e8 b0 b1 b2 b3 b4 b5 b6 b7 b8 ∧ Flags b0 b1 b2 b3 b4 b5 b6 b7 b8 j wd
/-- what is refused tells so -/
def OutA (K : PySem.W.Frag) (CE e0 e1 e2 e3 e4 e5 e6 e7 e8 : Addr) (Q : VK) : XK := fun cls d H' => ∃ (D : Addr) (wd : Str) (r : List V), cls = .ref D ∧ IsKind K CE e0 e1 e2 e3 e4 e5 e6 e7 e8 D wd ∧ (∀ dd, d = some dd → ∃ fs, H' dd = some (.xd fs)) ∧ Told wd d H' r ∧ ∀ p H2, Same H' H2 → H2 p = some (.tup r) → Q (.ref p) H2
def hRdX (K : PySem.W.Frag) (CE e0 e1 e2 e3 e4 e5 e6 e7 e8 a : Addr) (cls : Value) (d : Option Addr) : TS := fun De σ H => ∃ (D : Addr) (wd : Str), IsKind K CE e0 e1 e2 e3 e4 e5 e6 e7 e8 D wd ∧ hRdA a D wd cls d De σ H
/-- what comes out is told with the word value -/
def outQ (Q : VK) : VK := fun v H2 => ([V.str "value", v] : List V).length ≤ sizeLine ∧ ∀ p, H2 p = none → Q (.ref p) (upd H2 p (.tup [.str "value", v]))
theorem takes_len {X : Cx} {W : WX} (t : Takes X W) : Takes X (fun c d σ H => σ.length = X.N.length → W c d σ H) := fun u s' ⟨a, B, sI, pins, σ, H, cls, d, e, I, nb, up, sky, na, os, ag, w⟩ =>
  t u s' ⟨a, B, sI, pins, σ, H, cls, d, e, I, nb, up, sky, na, os, ag, w I.len⟩
/-- _law_outcome(e), e a lambda of this def -/
theorem pe_outA {X : Cx} {fO CE e0 e1 e2 e3 e4 e5 e6 e7 e8 : Addr} {fdO : FuncData} {k : Nat} {tl : TE} {e : Expr} {p pos : Pos}
    (F : Fun X.K "_law_outcome" "_law_outcome" sOutcome fO fdO) (at_ : X.mg "_law_outcome" = some (.ref fO)) (kp : PySem.W.keepIn X.K (.ref fO) = true) (hb : Binds X.K fdO ["_law_call"] [])
    (hCE : X.mg "ChairError" = some (.ref CE)) (NG : Nine X.mg e0 e1 e2 e3 e4 e5 e6 e7 e8) (B : Bt X.mg) (hr : Room (k + 2) X.A) (hg : Gl X "_law_outcome") (hl : PE X e tl)
    (he : starEach [e] X.env = (false, eval e X.env) :: starEach [] X.env := by rfl) (hpl : (backTo pos (starEach [] X.env)).any (·.1) = false := by rfl) :
    PE X (.Call (.Name "_law_outcome" p) [e] [] pos) (fun σ H Q => tCons tl tNil σ H fun vs H1 => ∃ f, vs = [.ref f] ∧ CanAct X k σ f (OutA X.K CE e0 e1 e2 e3 e4 e5 e6 e7 e8 Q) H1 (outQ Q)) := by
  refine ⟨fun pins s σ H Q I ht0 => ?_⟩
  refine wpAny_Call_Name_kw (ld_glob I hg at_ ?_ (by decide))
  refine PySem.W.callWith_K (h₀ := X.base) I.ok.mod.kin kp (thn ((pa_cons hl pa_nil he).run pos pins s σ H _ I ht0) fun us z1 ⟨vs, H1, I1, r, f, ev, ht⟩ => ⟨I1.kIn, ?_⟩) he hpl
  subst ev
  obtain ⟨oc, od, kV, doc, pm, an, cdv, ct, osl, rfl, lk, hcdO⟩ := F.ex
  have rc : codeAny (model X.prog X.w) X.A (.call (.ref fO) ⟨us, []⟩) (CR CX0 X.stack X.prog X.w H1 z1 Q E0) z1 := by
    have bt := hb z1 us I1.kIn (by rw [List.append_nil, ← r.length]; rfl)
    rw [List.append_nil] at bt
    refine run_ofS (CX := CX0) (N := oN) (ps := ["_law_call"]) lk hcdO scOutcome hr I1.env0 bt r rfl fun hr' => ?_
    have hgl : Gl (cxOf CX0 X.prog X.w X.K X.mg X.base oN "_law_outcome" (defScope sOutcome) fO cdv X.A X.stack z1 H1 E0).nox "ChairError" := rfl
    suffices h : ∃ t, PSs (cxOf CX0 X.prog X.w X.K X.mg X.base oN "_law_outcome" (defScope sOutcome) fO cdv X.A X.stack z1 H1 E0).nox (defBody sOutcome) t ∧ t { nx := fun _ H' => Q .non H', rt := Q } (L2.start oN [.ref f]) H1 from let ⟨t, h1, h2⟩ := h; ⟨t, h1.nox, h2⟩
    refine ⟨_, pss_one (ps_try_as (i := 1) (X := (cxOf CX0 X.prog X.w X.K X.mg X.base oN "_law_outcome" (defScope sOutcome) fO cdv X.A X.stack z1 H1 E0).nox) (c := .ref CE)
      (tb := fun W D σ' H' => ∃ Ech : XK, (∀ cls d σ' H', σ'.length = 5 → Ech cls d H' → W cls d σ' H') ∧ σ'[0]? = some (some (.ref f)) ∧ CanAct X k σ f Ech H' (outQ D.rt))
      (ts := fun a cls d => hRdX X.K CE e0 e1 e2 e3 e4 e5 e6 e7 e8 a cls d)
      rfl rfl scOutcome.nd rfl rfl ⟨hgl, by decide, .inl hCE⟩ L2.takes0 (fun W pn xe tk _ => ?_) (fun a oe cls d pn hz hf => ⟨fun pz z σz Hz De Iz ⟨D, wd, ⟨_, b0, b1, b2, b3, b4, b5, b6, b7, b8, j, KA, FL⟩, h⟩ => (hand_any NG KA FL B hr' hz hf).run pz z σz Hz De Iz h⟩)), ?_⟩
    · refine ⟨fun pz z σz Hz D Iz ⟨Ech, hW, h1, h2⟩ => ?_⟩
      exact (pss_one (ps_ret (pe_tup (pa_cons pe_str (pa_cons (pe_can (CXg := CX0) (Eg := E0) (Ng := oN) (i := 0) (E := Ech) I1 (takes_len tk) (fun cls d σ' H' e hl => hW cls d σ' H' hl e) hr' rfl (.inl rfl)) pa_nil))))).run pz z σz Hz D Iz ⟨h1, h2⟩
    · refine ⟨OutA X.K CE e0 e1 e2 e3 e4 e5 e6 e7 e8 Q, fun cls d σ' H' h2 ⟨D, wd, r, e1, ki, e2, e3, e4⟩ => ⟨true, by rw [e1]; exact ki.1, fun _ a ha => ⟨D, wd, ki, e1, ?_, e2, r, e3, e4⟩, fun hb => (nomatch hb)⟩, rfl, ht⟩
      match σ', h2 with
      | [x0, x1, x2, x3, x4], _ => exact ⟨x0, x2, x3, x4, rfl⟩
  refine wpAny_call (codeAny_mono rc fun z s2 q => ?_)
  cases z with
  | error e => exact (show False from q).elim
  | ok fl =>
    cases fl with
    | ret u => exact I1.after q
    | next => exact q.elim
    | brk => exact q.elim
    | cont => exact q.elim
/-- _law_outcome(lambda: body), the lambda made on the spot -/
theorem pe_outM {X : Cx} {fO CE e0 e1 e2 e3 e4 e5 e6 e7 e8 c Pt : Addr} {fdO : FuncData} {k : Nat} {T : List (Addr × Str)} {params : Arguments} {body : Expr} {scope : Scope} {tb : XK → TE} {p pos posL : Pos}
    (F : Fun X.K "_law_outcome" "_law_outcome" sOutcome fO fdO) (at_ : X.mg "_law_outcome" = some (.ref fO)) (kp : PySem.W.keepIn X.K (.ref fO) = true) (hb : Binds X.K fdO ["_law_call"] [])
    (hCE : X.mg "ChairError" = some (.ref CE)) (NG : Nine X.mg e0 e1 e2 e3 e4 e5 e6 e7 e8) (B : Bt X.mg) (hr : Room (k + 2) X.A) (hg : Gl X "_law_outcome")
    (TB : TabB X.base X.mg c Pt) (hcode : X.env.code = .ref c) (hm : (Pt, X.env.qual ++ "<lambda>") ∈ T) (hu : ∀ p ∈ T, p.1 = Pt → p.2 = X.env.qual ++ "<lambda>") (hdef : defaultsOf params X.env = ([], [])) (hkw : params.kwonlyargs = [])
    (L : LamN X.N X.env.scope scope) (hb0 : ∀ (q : Str) (cl : List (Str × Addr)) (pm cv ctv : Value), bindArgs (laFn q params body scope cl pm .none cv ctv) ⟨[], []⟩ = pure [])
    (hbody : ∀ (E : XK) (f : Addr) (A : Around) (outer : List Env) (s : Shared) (H : Hp) (c' : Addr), Room k (A.deeper (lamEnv X scope s.heap.objs.size f c')) → PE (lamCx X A outer s H E scope f c') body (tb E)) :
    PE X (.Call (.Name "_law_outcome" p) [.Lambda params body scope posL] [] pos) (fun σ H Q => Tabs T H ∧ ∀ f H1, H f = none → ExtN H H1 → Tabs T H1 → tb (OutA X.K CE e0 e1 e2 e3 e4 e5 e6 e7 e8 Q) σ H1 (outQ Q)) :=
  ⟨fun pins s σ H Q I h => (pe_outA F at_ kp hb hCE NG B hr hg (pe_lam0 TB hcode hm hu hdef hkw fun ok => L.has ok)).run pins s σ H Q I
    ⟨h.1, fun f H1 hn xt1 t1 la => ⟨f, rfl, params, body, scope, [], tb (OutA X.K CE e0 e1 e2 e3 e4 e5 e6 e7 e8 Q), la, L, .inl ⟨rfl, hb0⟩, fun _ => hb0, hbody _ f, h.2 f H1 hn xt1 t1⟩⟩⟩
end Cc

/-! Outcomes asked within a comprehension. -/
namespace Cc
open PySem PySem.Spec PyProof.Rows L2
open LamX
/-- _law_outcome(f), f a lambda of the def around the comprehension -/
theorem pe_outI {X : Cx} {pins : List (Addr × Obj)} {σ : L2.St} {H : Hp} {s : Shared} {sc : Scope} {ce : Env} {fp : List Addr} {fO CE e0 e1 e2 e3 e4 e5 e6 e7 e8 : Addr} {fdO : FuncData} {k iw : Nat} {wk : Str} {p pw pos : Pos}
    (I : Inv X pins σ H s) (hfp : ∀ b ∈ fp, FpOk X pins H b) (F : Fun X.K "_law_outcome" "_law_outcome" sOutcome fO fdO) (at_ : X.mg "_law_outcome" = some (.ref fO)) (kp : PySem.W.keepIn X.K (.ref fO) = true) (hb : Binds X.K fdO ["_law_call"] [])
    (hCE : X.mg "ChairError" = some (.ref CE)) (NG : Nine X.mg e0 e1 e2 e3 e4 e5 e6 e7 e8) (B : Bt X.mg) (hr : Room (k + 2) X.A) (hg : Gl (X.blk s H sc ce fp) "_law_outcome") (hw : X.N[iw]? = some wk) (hvw : Vis ce.scope wk) (hd : (wk == ("__debug__" : Str)) = false := by decide) (hcd : (wk == ("__classdict__" : Str)) = false := by decide)
    (he : starEach [Expr.Name wk pw] ce = (false, eval (.Name wk pw) ce) :: starEach [] ce := by rfl) (hpl : (backTo pos (starEach [] ce)).any (·.1) = false := by rfl) :
    PE (X.blk s H sc ce fp) (.Call (.Name "_law_outcome" p) [.Name wk pw] [] pos) (fun σB H' Q => ∃ f, σB[iw]? = some (some (.ref f)) ∧ CanAct X k σ f (OutA X.K CE e0 e1 e2 e3 e4 e5 e6 e7 e8 Q) H' (outQ Q)) := by
  refine ⟨fun pinsB s' σB H' Q IB ⟨f, hs, ht⟩ => ?_⟩
  refine wpAny_Call_Name_kw (ld_glob IB hg at_ ?_ (by decide))
  have ha : PA (X.blk s H sc ce fp) [Expr.Name wk pw] (tCons (tVar iw) tNil) := pa_cons (pe_var hw hvw hd hcd) pa_nil
  refine PySem.W.callWith_K (h₀ := X.base) IB.ok.mod.kin kp (thn (ha.run pos pinsB s' σB H' (fun vs H1 => vs = [.ref f] ∧ H1 = H') IB ⟨_, hs, rfl, rfl⟩) fun us z1 ⟨vs, H1, I1, r, ev, eH⟩ => ⟨I1.kIn, ?_⟩) he hpl
  subst ev
  subst eH
  have IX : Inv X pins σ H1 z1 := I.call' (ch := fp) I1.os I1.base I1.hok I1.bare fun b hb => ⟨(hfp b hb).2.2.2.1, (hfp b hb).2.1, (hfp b hb).2.2.2.2.1, (hfp b hb).2.2.2.2.2⟩
  obtain ⟨oc, od, kV, doc, pm, an, cdv, ct, osl, rfl, lk, hcdO⟩ := F.ex
  have rc : codeAny (model X.prog X.w) X.A (.call (.ref fO) ⟨us, []⟩) (CR CX0 X.stack X.prog X.w H1 z1 Q E0) z1 := by
    have bt := hb z1 us I1.kIn (by rw [List.append_nil, ← r.length]; rfl)
    rw [List.append_nil] at bt
    refine run_ofS (CX := CX0) (N := oN) (ps := ["_law_call"]) lk hcdO scOutcome hr IX.env0 bt r rfl fun hr' => ?_
    have hgl : Gl (cxOf CX0 X.prog X.w X.K X.mg X.base oN "_law_outcome" (defScope sOutcome) fO cdv X.A X.stack z1 H1 E0).nox "ChairError" := rfl
    suffices h : ∃ t, PSs (cxOf CX0 X.prog X.w X.K X.mg X.base oN "_law_outcome" (defScope sOutcome) fO cdv X.A X.stack z1 H1 E0).nox (defBody sOutcome) t ∧ t { nx := fun _ H' => Q .non H', rt := Q } (L2.start oN [.ref f]) H1 from let ⟨t, h1, h2⟩ := h; ⟨t, h1.nox, h2⟩
    refine ⟨_, pss_one (ps_try_as (i := 1) (X := (cxOf CX0 X.prog X.w X.K X.mg X.base oN "_law_outcome" (defScope sOutcome) fO cdv X.A X.stack z1 H1 E0).nox) (c := .ref CE)
      (tb := fun W D σ' H' => ∃ Ech : XK, (∀ cls d σ' H', σ'.length = 5 → Ech cls d H' → W cls d σ' H') ∧ σ'[0]? = some (some (.ref f)) ∧ CanAct X k σ f Ech H' (outQ D.rt))
      (ts := fun a cls d => hRdX X.K CE e0 e1 e2 e3 e4 e5 e6 e7 e8 a cls d)
      rfl rfl scOutcome.nd rfl rfl ⟨hgl, by decide, .inl hCE⟩ L2.takes0 (fun W pn xe tk _ => ?_) (fun a oe cls d pn hz hf => ⟨fun pz z σz Hz De Iz ⟨D, wd, ⟨_, b0, b1, b2, b3, b4, b5, b6, b7, b8, j, KA, FL⟩, h⟩ => (hand_any NG KA FL B hr' hz hf).run pz z σz Hz De Iz h⟩)), ?_⟩
    · refine ⟨fun pz z σz Hz D Iz ⟨Ech, hW, h1, h2⟩ => ?_⟩
      exact (pss_one (ps_ret (pe_tup (pa_cons pe_str (pa_cons (pe_can (CXg := CX0) (Eg := E0) (Ng := oN) (i := 0) (E := Ech) IX (takes_len tk) (fun cls d σ' H' e hl => hW cls d σ' H' hl e) hr' rfl (.inl rfl)) pa_nil))))).run pz z σz Hz D Iz ⟨h1, h2⟩
    · refine ⟨OutA X.K CE e0 e1 e2 e3 e4 e5 e6 e7 e8 Q, fun cls d σ' H' h2 ⟨D, wd, r, e1, ki, e2, e3, e4⟩ => ⟨true, by rw [e1]; exact ki.1, fun _ a ha => ⟨D, wd, ki, e1, ?_, e2, r, e3, e4⟩, fun hb => (nomatch hb)⟩, rfl, ht⟩
      match σ', h2 with
      | [x0, x1, x2, x3, x4], _ => exact ⟨x0, x2, x3, x4, rfl⟩
  refine wpAny_call (codeAny_mono rc fun z s2 q => ?_)
  cases z with
  | error e => exact (show False from q).elim
  | ok fl =>
    cases fl with
    | ret u => exact I1.after q
    | next => exact q.elim
    | brk => exact q.elim
    | cont => exact q.elim
end Cc

/-! The law of daybooks for all starts: its mathematics. -/
namespace Cc
open PySem PySem.Spec PyProof.Rows L2 TL
/-- the starts below n for which no row is wrong -/
def goodN (c : Int) (es : List Ent) : Nat → List Int
  | 0 => []
  | n + 1 => goodN c es n ++ (if checkF c 1 es (n : Int) = none then [(n : Int)] else [])
/-- from lo to hi -/
def upL (lo : Int) (n : Nat) : List Int := (List.range n).map fun (i : Nat) => lo + (i : Int)
theorem upL_more (lo : Int) (n : Nat) : upL lo (n + 1) = upL lo n ++ [lo + (n : Int)] := by
  unfold upL
  rw [List.range_succ, List.map_append]
  rfl
theorem goodN_up {c lo hi : Int} {es : List Ent} (c0 : 0 ≤ c) (l0 : 0 ≤ lo) (h1 : hi ≤ c) (he : ∀ x : Int, 0 ≤ x → x ≤ c → ((lo ≤ x ∧ x ≤ hi) ↔ checkF c 1 es x = none)) : ∀ n : Nat, (n : Int) ≤ c + 1 → goodN c es n = upL lo ((if hi < (n : Int) - 1 then hi else (n : Int) - 1) - lo + 1).toNat
  | 0, _ => by
    have : ((if hi < ((0 : Nat) : Int) - 1 then hi else ((0 : Nat) : Int) - 1) - lo + 1).toNat = 0 := by split <;> omega
    rw [this]
    rfl
  | n + 1, hn => by
    have ih := goodN_up c0 l0 h1 he n (by omega)
    have hx := he (n : Int) (by omega) (by omega)
    show goodN c es n ++ (if checkF c 1 es (n : Int) = none then [(n : Int)] else []) = _
    rw [ih]
    by_cases q : lo ≤ (n : Int) ∧ (n : Int) ≤ hi
    · rw [if_pos (hx.mp q)]
      have a1 : ((if hi < (n : Int) - 1 then hi else (n : Int) - 1) - lo + 1).toNat = ((n : Int) - lo).toNat := by split <;> omega
      have a2 : ((if hi < ((n + 1 : Nat) : Int) - 1 then hi else ((n + 1 : Nat) : Int) - 1) - lo + 1).toNat = ((n : Int) - lo).toNat + 1 := by split <;> omega
      rw [a1, a2, upL_more]
      congr 2
      omega
    · rw [if_neg (fun z => q (hx.mpr z)), List.append_nil]
      congr 1
      split <;> split <;> omega
theorem good_all {c : Int} {es : List Ent} (c0 : 0 ≤ c) (he : ∀ e ∈ es, EntC c e) : goodN c es (c + 1).toNat = upL (fitL c es).1.1 ((fitL c es).1.2 - (fitL c es).1.1 + 1).toNat := by
  obtain ⟨r0, r1⟩ := fit_range c0 he
  have := goodN_up c0 r0 r1 (fun x x0 x1 => fit_iff c0 x0 x1 he) (c + 1).toNat (by omega)
  rw [this]
  congr 1
  split <;> omega
theorem upL_len (lo : Int) (n : Nat) : (upL lo n).length = n := by
  unfold upL
  rw [List.length_map]; rw [List.length_range]
theorem upL_at {lo : Int} {n i : Nat} (h : i < n) : (upL lo n)[i]? = some (lo + (i : Int)) := by
  unfold upL
  rw [List.getElem?_map, List.getElem?_range h]
  rfl
theorem ints_eqv : ∀ a b : List Int, PyData.eqvAll (a.map PyData.int) (b.map PyData.int) = decide (a = b)
  | [], [] => rfl
  | [], _ :: _ => rfl
  | _ :: _, [] => rfl
  | x :: a, y :: b => by
    show ((x == y) && PyData.eqvAll (a.map PyData.int) (b.map PyData.int)) = _
    rw [ints_eqv a b, Bool.eq_iff_iff]
    simp
theorem ints_shaped (a : List Int) : SeqAt.shaped (.list (a.map PyData.int)) = true := by
  have h : ∀ a : List Int, PyData.canLayAll0 (a.map PyData.int) = true ∧ PyData.depthAll (a.map PyData.int) = 0 := by
    intro a
    induction a with
    | nil => exact ⟨rfl, rfl⟩
    | cons x a ih =>
      refine ⟨?_, ?_⟩
      · show (PyData.canLay0 (.int x) && PyData.canLayAll0 (a.map PyData.int)) = true
        rw [ih.1]
        rfl
      · show max (PyData.depth (.int x)) (PyData.depthAll (a.map PyData.int)) = 0
        rw [ih.2]
        rfl
  obtain ⟨h1, h2⟩ := h a
  have : PyData.depth (.list (a.map PyData.int)) = 1 := by
    show PyData.depthAll (a.map PyData.int) + 1 = 1
    rw [h2]
  unfold SeqAt.shaped
  rw [this]
  show (PyData.canLayAll0 (a.map PyData.int) && _) = true
  rw [h1]
  rfl
theorem dp_intsG {K : PySem.W.Frag} {H : Hp} : ∀ a : List Int, DpAll K H (a.map V.int) (a.map PyData.int)
  | [] => .nil
  | x :: a => .cons (.int x) (dp_intsG a)
/-! far houses -/
theorem num_mono {c d : Int} {w : Str} (h : numOk c w = true) (hd : c ≤ d) : numOk d w = true := by
  unfold numOk at h ⊢
  rw [Bool.and_eq_true] at h ⊢
  exact ⟨h.1, decide_eq_true (Int.le_trans (of_decide_eq_true h.2) hd)⟩
theorem row_mono {c d : Int} {ws : List Str} (h : rowOk c ws = true) (hd : c ≤ d) : rowOk d ws = true := by
  unfold rowOk at h ⊢
  rw [Bool.or_eq_true] at h ⊢
  rcases h with h | h
  · exact .inl h
  · refine .inr ?_
    rw [Bool.and_eq_true, Bool.or_eq_true] at h ⊢
    refine ⟨h.1, h.2.imp id fun z => ?_⟩
    unfold carW at z ⊢
    rw [Bool.and_eq_true] at z ⊢
    exact ⟨z.1, num_mono z.2 hd⟩
abbrev farX : List Str := ["red 5 carried ?", "blue 7 carried 3", "turn", "blue has ?"]
abbrev wideX : List Str := ["red 5 carried 0", "turn", "red 7 carried 0", "blue has ?"]
theorem far_rows : ∀ x ∈ farX, okS x ∧ x.length ≤ 20 ∧ 10 ∉ tl x ∧ rowOk 100 (wordsB x) = true := by
  intro x hx
  have : (farX.all fun x => (tl x).all (fun c => decide (c < 1114112)) && decide (x.length ≤ 20) && !(tl x).contains 10 && rowOk 100 (wordsB x)) = true := by decide +kernel
  have := List.all_eq_true.mp this x hx
  rw [Bool.and_eq_true, Bool.and_eq_true, Bool.and_eq_true] at this
  refine ⟨okS_of this.1.1.1, of_decide_eq_true this.1.1.2, fun z => ?_, this.2⟩
  have h2 := this.1.2
  rw [List.contains_iff_mem.mpr z] at h2
  cases h2
theorem wide_rows : ∀ x ∈ wideX, okS x ∧ x.length ≤ 20 ∧ 10 ∉ tl x ∧ rowOk 100 (wordsB x) = true := by
  intro x hx
  have : (wideX.all fun x => (tl x).all (fun c => decide (c < 1114112)) && decide (x.length ≤ 20) && !(tl x).contains 10 && rowOk 100 (wordsB x)) = true := by decide +kernel
  have := List.all_eq_true.mp this x hx
  rw [Bool.and_eq_true, Bool.and_eq_true, Bool.and_eq_true] at this
  refine ⟨okS_of this.1.1.1, of_decide_eq_true this.1.1.2, fun z => ?_, this.2⟩
  have h2 := this.1.2
  rw [List.contains_iff_mem.mpr z] at h2
  cases h2
abbrev farE : List (List Str × Option Stp × Option Int) := [(["red", "5", "carried", "?"].map Str.ofString, some (.meet true 5), none), (["blue", "7", "carried", "3"].map Str.ofString, some (.meet false 7), some 3), (["turn"].map Str.ofString, some .turn, none), (["blue", "has", "?"].map Str.ofString, none, none)]
abbrev wideE : List (List Str × Option Stp × Option Int) := [(["red", "5", "carried", "0"].map Str.ofString, some (.meet true 5), some 0), (["turn"].map Str.ofString, some .turn, none), (["red", "7", "carried", "0"].map Str.ofString, some (.meet true 7), some 0), (["blue", "has", "?"].map Str.ofString, none, none)]
def mkE (t : List Str × Option Stp × Option Int) : Ent := ⟨t.1, t.2.1, t.2.2⟩
theorem w_far : farX.map wordsB = farE.map (·.1) := by decide +kernel
theorem w_wide : wideX.map wordsB = wideE.map (·.1) := by decide +kernel
theorem e_far : farX.map lnE = farE.map mkE := by
  have : farX.map lnE = (farX.map wordsB).map entF := by rw [List.map_map]; rfl
  rw [this, w_far]
  clear this
  have a1 : entF (["red", "5", "carried", "?"].map Str.ofString) = ⟨(["red", "5", "carried", "?"].map Str.ofString), some (.meet true 5), none⟩ := by
    rw [ent_car (c := 100) (b := true) (n := 5) (by decide +kernel) (by decide +kernel) (by decide +kernel) (by decide +kernel) (by decide +kernel), show intL (tl (lastW (["red", "5", "carried", "?"].map Str.ofString))) = none by decide +kernel]
    rfl
  have a2 : entF (["blue", "7", "carried", "3"].map Str.ofString) = ⟨(["blue", "7", "carried", "3"].map Str.ofString), some (.meet false 7), some 3⟩ := by
    rw [ent_car (c := 100) (b := false) (n := 7) (by decide +kernel) (by decide +kernel) (by decide +kernel) (by decide +kernel) (by decide +kernel), show intL (tl (lastW (["blue", "7", "carried", "3"].map Str.ofString))) = some 3 by decide +kernel]
    rfl
  have t1 : entF (["turn"].map Str.ofString) = ⟨["turn"].map Str.ofString, some .turn, none⟩ := ent_turn rfl
  have h1 : entF (["blue", "has", "?"].map Str.ofString) = ⟨(["blue", "has", "?"].map Str.ofString), none, none⟩ := by
    rw [ent_has (by decide +kernel) (by decide +kernel), show intL (tl (lastW (["blue", "has", "?"].map Str.ofString))) = none by decide +kernel]
  show [entF _, entF _, entF _, entF _] = _
  rw [a1, a2, t1, h1]
  rfl
theorem e_wide : wideX.map lnE = wideE.map mkE := by
  have : wideX.map lnE = (wideX.map wordsB).map entF := by rw [List.map_map]; rfl
  rw [this, w_wide]
  clear this
  have a1 : entF (["red", "5", "carried", "0"].map Str.ofString) = ⟨(["red", "5", "carried", "0"].map Str.ofString), some (.meet true 5), some 0⟩ := by
    rw [ent_car (c := 100) (b := true) (n := 5) (by decide +kernel) (by decide +kernel) (by decide +kernel) (by decide +kernel) (by decide +kernel), show intL (tl (lastW (["red", "5", "carried", "0"].map Str.ofString))) = some 0 by decide +kernel]
    rfl
  have a2 : entF (["red", "7", "carried", "0"].map Str.ofString) = ⟨(["red", "7", "carried", "0"].map Str.ofString), some (.meet true 7), some 0⟩ := by
    rw [ent_car (c := 100) (b := true) (n := 7) (by decide +kernel) (by decide +kernel) (by decide +kernel) (by decide +kernel) (by decide +kernel), show intL (tl (lastW (["red", "7", "carried", "0"].map Str.ofString))) = some 0 by decide +kernel]
    rfl
  have t1 : entF (["turn"].map Str.ofString) = ⟨["turn"].map Str.ofString, some .turn, none⟩ := ent_turn rfl
  have h1 : entF (["blue", "has", "?"].map Str.ofString) = ⟨(["blue", "has", "?"].map Str.ofString), none, none⟩ := by
    rw [ent_has (by decide +kernel) (by decide +kernel), show intL (tl (lastW (["blue", "has", "?"].map Str.ofString))) = none by decide +kernel]
  show [entF _, entF _, entF _, entF _] = _
  rw [a1, t1, a2, h1]
  rfl
theorem far_ok {c x : Int} (hc : 100 ≤ c) (x0 : 0 ≤ x) (x1 : x ≤ c) : okAll c (farE.map mkE) x = decide (x = c - 4) := by
  have e : okAll c (farE.map mkE) x = (!(!decide ((some (stepF c (.meet false 7) (stepF c (.meet true 5) x).1).2 : Option Int) = some 3)) && true) := rfl
  rw [e, Bool.not_not, Bool.and_true]
  refine decide_eq_decide.mpr ?_
  rw [Option.some.injEq]
  unfold stepF mx
  dsimp only
  constructor
  · intro h
    split at h <;> split at h <;> omega
  · intro h
    subst h
    split <;> split <;> omega
theorem wide_ok {c x : Int} (hc : 100 ≤ c) (x0 : 0 ≤ x) (x1 : x ≤ c) : okAll c (wideE.map mkE) x = decide (5 ≤ x ∧ x ≤ c - 7) := by
  have e : okAll c (wideE.map mkE) x = (!(!decide ((some (stepF c (.meet true 5) x).2 : Option Int) = some 0)) && (!(!decide ((some (stepF c (.meet true 7) (stepF c .turn (stepF c (.meet true 5) x).1).1).2 : Option Int) = some 0)) && true)) := rfl
  rw [e, Bool.not_not, Bool.not_not, Bool.and_true, ← Bool.decide_and]
  refine decide_eq_decide.mpr ?_
  rw [Option.some.injEq, Option.some.injEq]
  unfold stepF mx
  dsimp only
  constructor
  · rintro ⟨h1, h2⟩
    split at h1 <;> split at h2 <;> omega
  · intro h
    constructor <;> (repeat split) <;> omega
theorem far_fit {c : Int} (hc : 100 ≤ c) (he : ∀ e ∈ farE.map mkE, EntC c e) : (fitL c (farE.map mkE)).1 = (c - 4, c - 4) := by
  have f : ∀ x : Int, 0 ≤ x → x ≤ c → (((fitL c (farE.map mkE)).1.1 ≤ x ∧ x ≤ (fitL c (farE.map mkE)).1.2) ↔ x = c - 4) := fun x x0 x1 => by
    rw [fit_iff (by omega) x0 x1 he, check_ok, far_ok hc x0 x1, decide_eq_true_iff]
  have a := f (c - 4) (by omega) (by omega)
  have b := f (c - 3) (by omega) (by omega)
  have d := f (c - 5) (by omega) (by omega)
  generalize (fitL c (farE.map mkE)).1 = p at *
  obtain ⟨lo, hi⟩ := p
  dsimp only at *
  have h1 : lo = c - 4 := by omega
  have h2 : hi = c - 4 := by omega
  rw [h1, h2]
theorem wide_fit {c : Int} (hc : 100 ≤ c) (he : ∀ e ∈ wideE.map mkE, EntC c e) : (fitL c (wideE.map mkE)).1 = (5, c - 7) := by
  have f : ∀ x : Int, 0 ≤ x → x ≤ c → (((fitL c (wideE.map mkE)).1.1 ≤ x ∧ x ≤ (fitL c (wideE.map mkE)).1.2) ↔ (5 ≤ x ∧ x ≤ c - 7)) := fun x x0 x1 => by
    rw [fit_iff (by omega) x0 x1 he, check_ok, wide_ok hc x0 x1, decide_eq_true_iff]
  have a := f 5 (by omega) (by omega)
  have b := f 4 (by omega) (by omega)
  have d := f (c - 7) (by omega) (by omega)
  have g := f (c - 6) (by omega) (by omega)
  generalize (fitL c (wideE.map mkE)).1 = p at *
  obtain ⟨lo, hi⟩ := p
  dsimp only at *
  have h1 : lo = 5 := by omega
  have h2 : hi = c - 7 := by omega
  rw [h1, h2]
end Cc

/-! The end of a row whose law makes lambdas: its code's table is tracked, the script is locked. -/
namespace Cc
open PySem PySem.Spec PyProof.Rows L2
open LamX
/-- the table of a def's code, by what the written part tells -/
theorem tab_mk {K : PySem.W.Frag} {x : Str} {f c P : Addr} {oc oC : Value} {od dC : Option Addr} {fd : FuncData} {sl slC : Array (Option Value)} {vC : Array Value} (a : PySem.W.nsIn K mainGlobals x = some (some (.ref f))) (l : K.lookup f = some ⟨oc, od, .func fd, sl⟩) (hc : fd.code = .ref c)
    (lc : K.lookup c = some ⟨oC, dC, .fields vC, slC⟩) (h : vC[11]? = some (.ref P)) : PySem.W.tabIn K x = some (c, P) := by
  unfold PySem.W.tabIn
  rw [a]
  dsimp only
  rw [l]
  dsimp only
  rw [hc]
  dsimp only
  rw [lc]
  dsimp only
  rw [h]
/-- an own error class catches its own -/
theorem exm_own {K : PySem.W.Frag} {C : Addr} (b : PySem.W.subIn K (.ref C) (.type "BaseException") = some true) (i : PySem.W.isClsIn K C = true) (t : PySem.W.typeIn K (.ref C) = some (.type "type")) (s : PySem.W.subIn K (.ref C) (.ref C) = some true) : PySem.W.exmOne K (.ref C) (.ref C) = some true := by
  have i2 : (PySem.W.clsIn K C).isSome = true := i
  unfold PySem.W.exmOne PySem.W.kitCls
  simp only [b, i2, t, s]
  rfl
theorem call_tab {P : Program} {w : World} {K : PySem.W.Frag} {mg mb : Str → Option Value} {k : Nat} {fa a c T : Addr} {fd : FuncData} {x : Str} {sp : Sp} {st : Shared} {us : List Value} {ns : List Int}
    (kin : K.In st.heap) (gl : st.heap.Ns mainGlobals mg) (bl : st.heap.Ns builtinsNs mb) (blb : ∀ x : Str, x ≠ "__name__" → mb x = bootBuiltins x) (lim : st.heap.NoLimit) (ge : st.gens = #[])
    (atT : st.heap.get? T = some { cls := .none, data := .fields #[] }) (kT : K.lookup T = none) (cd : PySem.W.CodeHd st.heap c T)
    (mn : ∃ (bm : Addr) (ob : Obj), mg "__builtins__" = some (.ref bm) ∧ bm ≠ builtinsNs ∧ st.heap.get? bm = some ob ∧ ob.cls = .type "module" ∧ ob.dict = some builtinsNs ∧ ob.data = .plain)
    (atA : st.heap.get? a = some { cls := .type "list", data := .seq us.toArray }) (isI : IntsAre us ns) (len : ns.length ≤ sizeLine) (room : Room k callerA)
    (F : ∀ base : Heap, K.In base → base.Ns mainGlobals mg → TabB base mg c T → FnOk P w K mg base CX0 k fa fd [x] sp) (bind : ∀ (s : Shared) (u : Value), BindsTo s fd ⟨[u], []⟩ [(x, u)])
    (hsp : ∀ H : Hp, H T = some (.tbl #[]) → SqF K H a (ns.map V.int) → sp [.ref a] H (fun v _ => v = .bl true) fun _ _ _ => False) :
    codeAny (model P w) callerA (.call (.ref fa) ⟨[.ref a], []⟩) (fun r s' => r = .ok (.ret (.bool true)) ∧ OldK st.heap s'.heap ∧ s'.os = st.os ∧ AllBare s'.gens) st := by
  have rel := vals_ints isI
  have many := isI.length
  have neq : a ≠ T := fun z => by
    rw [z, atT] at atA
    cases atA
  obtain ⟨H, hT, hO, hS, hok, hA, hK⟩ : ∃ H : Hp, H T = some (.tbl #[]) ∧ (∀ b, H b = none ∨ b = T ∨ ∃ o xs, H b = some (.frz o (.lst xs))) ∧ SqF K H a (ns.map V.int) ∧ HOk P w H st.heap ∧ (∀ b, H b ≠ none → b = a ∨ b = T) ∧ (H a ≠ none → K.lookup a = none) := by
    cases hk : K.lookup a with
    | some o =>
      have e := kin a o hk
      rw [atA] at e
      cases e
      refine ⟨fun b => if b = T then some (.tbl #[]) else none, if_pos rfl, fun b => ?_, .inr (.inr ⟨_, us.toArray, _, hk, rfl, rfl, rfl, by rw [List.size_toArray, many]; exact len, by simpa using rel⟩), fun b u z => ?_, fun b z => ?_, fun z => (z (if_neg neq)).elim⟩
      · by_cases q : b = T
        · exact .inr (.inl q)
        · exact .inl (if_neg q)
      · by_cases q : b = T
        · cases (if_pos q).symm.trans z
          rw [q]
          exact atT
        · cases (if_neg q).symm.trans z
      · by_cases q : b = T
        · exact .inr q
        · exact (z (if_neg q)).elim
    | none =>
      refine ⟨fun b => if b = a then some (.frz { cls := .type "list", data := .seq us.toArray } (.lst (ns.map V.int))) else if b = T then some (.tbl #[]) else none, (if_neg neq.symm).trans (if_pos rfl), fun b => ?_, .inl ⟨_, if_pos rfl⟩, fun b u z => ?_, fun b z => ?_, fun _ => rfl⟩
      · by_cases q : b = a
        · exact .inr (.inr ⟨_, _, if_pos q⟩)
        · by_cases q2 : b = T
          · exact .inr (.inl q2)
          · exact .inl ((if_neg q).trans (if_neg q2))
      · by_cases q : b = a
        · cases (if_pos q).symm.trans z
          rw [q]
          exact ⟨atA, by rw [List.length_map]; exact len, us, _, rel, atA⟩
        · by_cases q2 : b = T
          · cases (if_pos q2).symm.trans ((if_neg q).symm.trans z)
            rw [q2]
            exact atT
          · cases (if_neg q2).symm.trans ((if_neg q).symm.trans z)
      · by_cases q : b = a
        · exact .inl q
        · by_cases q2 : b = T
          · exact .inr q2
          · exact (z ((if_neg q).trans (if_neg q2))).elim
  -- what is no list and no table lies in the ground
  have plain : ∀ {b : Addr} {o : Obj}, st.heap.get? b = some o → (∀ vs n, o.data ≠ .seq vs n) → o.data ≠ .fields #[] → H b = none := fun {b o} e n1 n2 => by
    cases q : H b with
    | none => rfl
    | some u =>
      rcases hA b (by rw [q]; exact fun z => nomatch z) with z | z
      · rw [z, atA] at e
        cases e
        exact (n1 _ _ rfl).elim
      · rw [z, atT] at e
        cases e
        exact (n2 rfl).elim
  have dictB : ∀ {b : Addr} {m : Str → Option Value}, st.heap.Ns b m → (hidT st.heap H).Ns b m := fun {b m} ⟨o, es, ep, e, d, r⟩ => ⟨o, es, ep, hidT_get e (plain e (fun vs n z => by rw [d] at z; cases z) fun z => by rw [d] at z; cases z), d, r⟩
  have kinB : K.In (hidT st.heap H) := fun b o e => hidT_get (kin b o e) (by
    cases q : H b with
    | none => rfl
    | some u =>
      have n0 : H b ≠ none := by rw [q]; exact fun z => nomatch z
      rcases hA b n0 with z | z
      · subst z
        rw [hK n0] at e
        cases e
      · rw [z, kT] at e
        cases e)
  have modB : L2.Mod K mg (hidT st.heap H) := ⟨kinB, dictB gl, ⟨mb, dictB bl, blb⟩, let ⟨mc, h1, h2⟩ := lim; ⟨mc, dictB h1, h2⟩⟩
  have TB : TabB (hidT st.heap H) mg c T := by
    refine ⟨?_, ?_, fun z => ?_⟩
    · obtain ⟨o, vs, file, tf, flags, tg, inF, text, tt, e1, r1, r2, r3, more⟩ := cd
      exact ⟨o, vs, file, tf, flags, tg, inF, text, tt, hidT_get e1 (plain e1 (fun vs n z => by rw [r2] at z; cases z) fun z => by rw [r2] at z; cases z; simp at r3), r1, r2, r3, more⟩
    · obtain ⟨bm, ob, b1, b2, b3, b4, b5, b6⟩ := mn
      refine ⟨bm, ob, b1, b2, fun q => ?_, fun q => ?_, hidT_get b3 (plain b3 (fun vs n z => by rw [b6] at z; cases z) fun z => by rw [b6] at z; cases z), b4, b5, b6⟩
      · obtain ⟨o, es, ep, e, d, _⟩ := gl
        rw [q, e] at b3
        cases b3
        rw [d] at b6
        cases b6
      · rw [q, atT] at b3
        cases b3
        cases b6
    · obtain ⟨o, es, ep, e, d, _⟩ := gl
      rw [z, atT] at e
      cases e
      cases d
  have e0 : Env0 P w K mg (hidT st.heap H) callerA [] st H := ⟨rfl, modB, fun b o e => of_hidT e, Nat.le_of_eq (hidT_size _ _), trivial, fun b hb => absurd (show b ∈ ([] : List Addr) from hb) List.not_mem_nil, hok, .of_eq ge⟩
  refine codeAny_mono ((F _ kinB (dictB gl) TB).run callerA [] st H ⟨[.ref a], []⟩ [.ref a] [.ref a] _ _ room e0 (bind st (.ref a)) (.cons rfl .nil) (hsp H hT hS)) fun r s' h => ?_
  cases r with
  | error e => exact False.elim h
  | ok fl =>
    cases fl with
    | next => exact False.elim h
    | brk => exact False.elim h
    | cont => exact False.elim h
    | ret u =>
      obtain ⟨v, H', os, bare, un, hok2, r2, q⟩ := h
      cases (show v = V.bl true from q)
      cases (show u = Value.bool true from r2)
      have kept : ∀ b o, b ≠ T → st.heap.get? b = some o → s'.heap.get? b = some o := fun b o nb e => by
        rcases hO b with z | z | ⟨ob, ys, z⟩
        · exact un.keep b o e z (fun w => absurd (show b ∈ ([] : List Addr) from w) List.not_mem_nil) (fun z => nomatch z)
        · exact (nb z).elim
        · obtain ⟨e1, _⟩ := hok b _ z
          obtain ⟨e2, _⟩ := hok2 b _ (un.frzs b ob _ z)
          rw [e] at e1
          cases e1
          exact e2
      obtain ⟨more, hm⟩ := un.tbls T #[] hT
      have grown : s'.heap.get? T = some { cls := .none, data := .fields (#[] ++ more) } := hok2 T _ hm
      refine ⟨rfl, ⟨fun b oo e => ?_, fun b oo e => ?_⟩, os, bare⟩
      · by_cases q : b = T
        · subst q
          rw [atT] at e
          cases e
          exact .inr (.inl ⟨(cd.tab atT).isCodeTable, rfl, #[], more, rfl, grown⟩)
        · exact .inl (kept b oo q e)
      · by_cases q : b = T
        · rw [q]
          exact ⟨_, grown⟩
        · exact ⟨oo, kept b oo q e⟩
/-- the row's end -/
theorem walk_tab {l : PySem.W.OpenLaw} {n k : Nat} {q : Program} {loose : List Str} {XP : (Str → Option Value) → Heap → Prop} {YP : World → Heap → Prop} {d : DefRec} {K : Params → PySem.W.Frag} {sp : World → Addr → Sp} {x : Str}
    (hn : l.most = some n) (hn2 : n ≤ sizeLine) (hdf : d.params.defaults = []) (hr : Room k callerA) (hY : ∀ (w : World) (h : Heap), YP w h → (K w.params).In h) (hd : (recsOf q).find? (fun e => e.name == d.name) = some d)
    (F : ∀ (w : World) (mg : Str → Option Value) (fa : Addr) (h : Heap), (K w.params).In h → h.Ns mainGlobals mg → mg d.name = some (.ref fa) → ∃ (fd : FuncData) (c T : Addr), PySem.W.tabIn (K w.params) d.name = some (c, T) ∧ (K w.params).lookup T = none ∧ (∀ (s : Shared) (u : Value), BindsTo s fd ⟨[u], []⟩ [(x, u)]) ∧
      ∀ base : Heap, (K w.params).In base → base.Ns mainGlobals mg → TabB base mg c T → FnOk l.prog w (K w.params) mg base CX0 k fa fd [x] (sp w T))
    (hsp : ∀ (w : World) (T : Addr) (H : Hp) (a : Addr) (ns : List Int), ns.length ≤ n → H T = some (.tbl #[]) → SqF (K w.params) H a (ns.map V.int) → sp w T [.ref a] H (fun v _ => v = .bl true) fun _ _ _ => False) :
    PySem.W.WalkO q loose XP YP l.row.toRowW d [] (fun g us => PySem.call g us) := by
  refine Att.attach_callB hn hdf fun w s₀ s₁ mg mb fa o pm cd doc a vs ns G Y ho hdat hcd hmg hobj hints hlen hbits hg => ?_
  have kin := hY w _ Y
  obtain ⟨fd, c, T, ht, kT, hb, hF⟩ := F w mg fa _ kin G.T.g hmg
  obtain ⟨C, atT⟩ := PySem.W.tab_of G.T kin hd ht
  exact call_tab kin G.T.g G.T.b G.T.builtins G.T.nolimit hg atT kT C G.T.bmain hobj hints (Nat.le_trans hlen hn2) hr hF hb fun H h1 h2 => hsp w T H a ns hlen h1 h2
end Cc

/-! The other kinds of errors. -/
namespace Cc
open PySem PySem.Spec PyProof.Rows L2
theorem flags_daybook : Flags true false false false false false false false false 0 "daybook" := ⟨by decide +kernel, by decide +kernel, by decide +kernel, rfl, fun m z hm hz => absurd hm (Nat.not_lt_zero m), rfl⟩
theorem flags_code : Flags false true false false false false false false false 1 "code" := ⟨by decide +kernel, by decide +kernel, by decide +kernel, rfl, fun m z hm hz => by
  match m, hm with
  | 0, _ => cases hz; decide +kernel, rfl⟩
theorem flags_operation : Flags false false false false true false false false false 4 "operation" := ⟨by decide +kernel, by decide +kernel, by decide +kernel, rfl, fun m z hm hz => by
  match m, hm with
  | 0, _ => cases hz; decide +kernel
  | 1, _ => cases hz; decide +kernel
  | 2, _ => cases hz; decide +kernel
  | 3, _ => cases hz; decide +kernel, rfl⟩
theorem flags_plan : Flags false false false false false true false false false 5 "plan" := ⟨by decide +kernel, by decide +kernel, by decide +kernel, rfl, fun m z hm hz => by
  match m, hm with
  | 0, _ => cases hz; decide +kernel
  | 1, _ => cases hz; decide +kernel
  | 2, _ => cases hz; decide +kernel
  | 3, _ => cases hz; decide +kernel
  | 4, _ => cases hz; decide +kernel, rfl⟩
theorem flags_text : Flags false false false false false false true false false 6 "text" := ⟨by decide +kernel, by decide +kernel, by decide +kernel, rfl, fun m z hm hz => by
  match m, hm with
  | 0, _ => cases hz; decide +kernel
  | 1, _ => cases hz; decide +kernel
  | 2, _ => cases hz; decide +kernel
  | 3, _ => cases hz; decide +kernel
  | 4, _ => cases hz; decide +kernel
  | 5, _ => cases hz; decide +kernel, rfl⟩
end Cc

namespace Cc
open PySem PySem.Spec PyProof.Rows L2
/-- the nine classes of errors, asked of InvalidNumber -/
structure KindN (K : PySem.W.Frag) (mg : Str → Option Value) (eDa eDe eBo eNu eOp ePl eTe eEn eFe : Addr) : Prop where
  ec : ExcC K eNu
  t0 : mg "DaybookError" = some (.ref eDa)
  t1 : mg "DecodeError" = some (.ref eDe)
  t2 : mg "InvalidBooking" = some (.ref eBo)
  t3 : mg "InvalidNumber" = some (.ref eNu)
  t4 : mg "InvalidOperation" = some (.ref eOp)
  t5 : mg "InvalidPlan" = some (.ref ePl)
  t6 : mg "InvalidText" = some (.ref eTe)
  t7 : mg "NotEnough" = some (.ref eEn)
  t8 : mg "TooFewChairs" = some (.ref eFe)
  k0 : PySem.W.kitOne K (.ref eNu) (.ref eDa) = some false
  k1 : PySem.W.kitOne K (.ref eNu) (.ref eDe) = some false
  k2 : PySem.W.kitOne K (.ref eNu) (.ref eBo) = some false
  k3 : PySem.W.kitOne K (.ref eNu) (.ref eNu) = some true
  k4 : PySem.W.kitOne K (.ref eNu) (.ref eOp) = some false
  k5 : PySem.W.kitOne K (.ref eNu) (.ref ePl) = some false
  k6 : PySem.W.kitOne K (.ref eNu) (.ref eTe) = some false
  k7 : PySem.W.kitOne K (.ref eNu) (.ref eEn) = some false
  k8 : PySem.W.kitOne K (.ref eNu) (.ref eFe) = some false
  kv : PySem.W.kitOne K (.ref eNu) (.type "ValueError") = some true
end Cc

namespace Cc
open PySem PySem.Spec PyProof.Rows L2
theorem sub_ne {K : PySem.W.Frag} {A B : Addr} (s : PySem.W.subIn K (.ref A) (.ref A) = some true) (h : PySem.W.subIn K (.ref A) (.ref B) = some false) : (Value.ref A == Value.ref B) = false := by
  refine Bool.eq_false_iff.mpr fun q => ?_; have e : A = B := Value.ref.inj (beq_iff_eq.mp q)
  subst e
  rw [s] at h
  cases h
theorem kit_noB {K : PySem.W.Frag} {A B : Addr} (s : PySem.W.subIn K (.ref A) (.ref A) = some true) (i : PySem.W.isClsIn K B = true) (t : PySem.W.typeIn K (.ref B) = some (.type "type")) (h : PySem.W.subIn K (.ref A) (.ref B) = some false) : PySem.W.kitOne K (.ref A) (.ref B) = some false :=
  kit_ref i t h fun _ => sub_ne s h
theorem kit_ve {K : PySem.W.Frag} {D : Addr} (h : PySem.W.subIn K (.ref D) (.type "ValueError") = some true) : PySem.W.kitOne K (.ref D) (.type "ValueError") = some true := by
  unfold PySem.W.kitOne
  rw [if_neg (by simp)]
  show (if PySem.W.kitMeta "ValueError" = true then _ else none) = _
  rw [if_pos (by decide +kernel)]
  exact h
theorem kbn_red {K : PySem.W.Frag} {x qual : Str} {params : Arguments} {body : List Stmt} {scope : Scope} {kV doc pm cdv ct : Value} {an : Option Addr} (h : ∀ (s : Shared) (a b z : Value), BindsTo s (PySem.W.fnOf x qual params body scope .none kV doc pm an cdv ct) ⟨[a, b], [("red", z)]⟩ [("self", a), ("chairs", b), ("red", z)]) :
    KBn K (PySem.W.fnOf x qual params body scope .none kV doc pm an cdv ct) ["self", "chairs", "red"] 2 ["red"] (fun us ws => us ++ ws) (fun vs zs => vs ++ zs) :=
  ⟨fun s us ws _ l1 l2 => match us, ws, l1, l2 with | [a, b], [z], _, _ => h s a b z, fun r1 r2 => r1.append r2⟩
end Cc

/-! Texts that the law of daybooks names. -/
namespace Cc
open PySem PySem.Spec PyProof.Rows L2 TL
abbrev edgeL : List Str := ["chairs 1000000000000000000\nred has 1000000000000000000", "chairs 1000000000000000001", "chairs 3\nred 4 carried ?", "chairs 3\nred has 1000000000000000001", "chairs 3\nred 3 carried 1000000000000000000"]
abbrev edgeB : List (Option Nat) := [none, some 0, some 1, some 1, none]
theorem edge_bad : edgeL.map (fun t => badF (rowsT t)) = edgeB := by decide +kernel
theorem edge_ok : ∀ t ∈ edgeL, okS t ∧ t.length ≤ 100 := by
  intro x hx
  have : (edgeL.all fun x => (tl x).all (fun c => decide (c < 1114112)) && decide (x.length ≤ 100)) = true := by decide +kernel
  have := List.all_eq_true.mp this x hx
  rw [Bool.and_eq_true] at this
  exact ⟨okS_of this.1, of_decide_eq_true this.2⟩
theorem ext_tl2 {a b : Str} : a = b ↔ tl a = tl b := ⟨fun z => by rw [z], ext_tl⟩
theorem short_lines {t : Str} {n : Nat} (h : t.length ≤ n) : ∀ y ∈ lines t, y.length ≤ n := fun y hy => by
  have h1 := tot_mem hy
  rw [(lines_tot t).1] at h1
  omega
theorem lines_of' {x : Str} {ps : List Str} (h : tl x = joinL [10] (ps.map tl)) (ne : ps ≠ []) (hp : ∀ p ∈ ps, 10 ∉ tl p) : lines x = ps := by
  refine map_tl_inj ?_
  rw [split_spl _ _ (by rw [tl_nl]; simp) (kind_ok (by decide +kernel)), tl_nl, h]
  refine spl_join (fun e => ne (List.map_eq_nil_iff.mp e)) fun p hq => ?_
  obtain ⟨z, hz, rfl⟩ := List.mem_map.mp hq
  exact hp z hz
theorem foldl_cps : ∀ (m : Nat) (a b : Array Nat), ((List.replicate m b).foldl (· ++ ·) a).toList = a.toList ++ (List.replicate m b.toList).flatten
  | 0, a, b => by simp
  | m + 1, a, b => by
    rw [List.replicate_succ, List.foldl_cons, foldl_cps m (a ++ b) b, Array.toList_append, List.append_assoc]
    rfl
theorem mul_tl {x : Str} {n : Nat} (h : 2 ≤ n) (hx : x.length ≠ 0) : tl (Txt.mul x (n : Int)) = (List.replicate n (tl x)).flatten := by
  unfold Txt.mul
  rw [if_neg (by omega), if_neg (by
    rw [Bool.or_eq_true, beq_iff_eq, beq_iff_eq]
    omega)]
  show ((List.replicate (n : Int).toNat x.cps).foldl (· ++ ·) #[]).toList = _
  rw [foldl_cps, Int.toNat_natCast]
  rfl
theorem join_rep (a b : List Nat) : ∀ n : Nat, joinL [10] (a :: List.replicate n b) = a ++ (List.replicate n (10 :: b)).flatten
  | 0 => by simp [joinL]
  | n + 1 => by
    have h : joinL [10] (a :: List.replicate (n + 1) b) = a ++ ([10] ++ joinL [10] (b :: List.replicate n b)) := rfl
    rw [h, join_rep b b n]
    simp [List.replicate_succ]
def longT (n : Nat) : Str := Str.ofString "chairs 3" ++ Txt.mul "\nturn" (n : Int)
theorem long_tl {n : Nat} (h : 2 ≤ n) : tl (longT n) = joinL [10] ((Str.ofString "chairs 3" :: List.replicate n (Str.ofString "turn")).map tl) := by
  unfold longT
  rw [tl_append, mul_tl h (by decide +kernel), List.map_cons, List.map_replicate, join_rep]
  rw [show tl (Str.ofString "\nturn") = 10 :: tl (Str.ofString "turn") by decide +kernel]
theorem long_lines {n : Nat} (h : 2 ≤ n) : lines (longT n) = Str.ofString "chairs 3" :: List.replicate n (Str.ofString "turn") :=
  lines_of' (long_tl h) (by simp) (fun p hp => by
    rcases (List.mem_cons.mp hp) with rfl | hp
    · decide +kernel
    · rw [(List.mem_replicate.mp hp).2]
      decide +kernel)
theorem words_turn : wordsB "turn" = [Str.ofString "turn"] := words_of (by simp [joinL]) (by simp) (fun p hp => by rw [List.mem_singleton.mp hp]; decide +kernel)
theorem long_bad {n : Nat} (h : 2 ≤ n) : badF (rowsT (longT n)) = if 201 < 1 + n then some 201 else none := by
  unfold rowsT
  rw [long_lines h, List.map_cons, List.map_replicate]
  have e : headV (wordsB (Str.ofString "chairs 3")) = some 3 := by
    have := (head_row 3 (by decide)).1
    rw [show Str.ofString "chairs " ++ nS 3 = Str.ofString "chairs 3" from ext_tl2.mpr (by decide +kernel)] at this
    exact this
  unfold badF
  show (match headV (wordsB (Str.ofString "chairs 3")) with | none => some 0 | some c => badFrom c 1 (List.replicate n (wordsB (Str.ofString "turn")))) = _
  rw [e, words_turn]
  exact badFrom_rep (by decide)
theorem tot_rep (x : Str) : ∀ n : Nat, tot (List.replicate n x) = n * (x.length + 1)
  | 0 => by rw [Nat.zero_mul]; rfl
  | n + 1 => by rw [List.replicate_succ, tot_cons, tot_rep x n, Nat.succ_mul, Nat.add_comm]
theorem long_ok {n : Nat} (h : 2 ≤ n) (h2 : n ≤ 300) : okS (longT n) ∧ (longT n).length ≤ 3000 ∧ (∀ y ∈ lines (longT n), y.length ≤ 600) := by
  refine ⟨fun c hc => ?_, ?_, fun y hy => ?_⟩
  · unfold longT at hc
    rw [tl_append, mul_tl h (by decide +kernel)] at hc
    rcases List.mem_append.mp hc with z | z
    · exact okS_of (x := Str.ofString "chairs 3") (by decide +kernel) c z
    · obtain ⟨l, hl, hc2⟩ := List.mem_flatten.mp z
      rw [(List.mem_replicate.mp hl).2] at hc2
      exact okS_of (x := Str.ofString "\nturn") (by decide +kernel) c hc2
  · have := (lines_tot (longT n)).1
    rw [long_lines h, tot_cons] at this
    have e : tot (List.replicate n (Str.ofString "turn")) = n * 5 := by
      rw [tot_rep, show (Str.ofString "turn").length = 4 by decide +kernel]
    rw [e, show (Str.ofString "chairs 3").length = 8 by decide +kernel] at this
    omega
  · rw [long_lines h] at hy
    rcases (List.mem_cons.mp hy) with rfl | hp
    · decide +kernel
    · rw [(List.mem_replicate.mp hp).2]
      decide +kernel
end Cc

set_option maxHeartbeats 16000000
/-! The law of daybooks for all starts. -/
namespace Cc
open PySem PySem.Spec PyProof.Rows L2 TL
open LamX
def spLawT (K : PySem.W.Frag) (Pt : Addr) : Sp := fun vs H Q _ => ∃ (a : Addr) (ns : List Int), vs = [.ref a] ∧ SqF K H a (ns.map V.int) ∧ ns.length ≤ 63 ∧ H Pt = some (.tbl #[]) ∧ ∀ H', Q (.bl true) H'
theorem tabs_but2 {T : List (Addr × Str)} {h l : Addr} {H H' : Hp} (t : Tabs T H) (b : But2 h l H H') (n : NextAt H h l) : Tabs T H' := fun p hp => by
  obtain ⟨xs, hx⟩ := n.h1
  obtain ⟨ys, hy⟩ := n.l1
  obtain ⟨ps, h1, h2, h3⟩ := t p hp
  refine ⟨ps, b _ _ (ne_of h1 hx fun z => nomatch z) (ne_of h1 hy fun z => nomatch z) h1, h2, fun pos cv hc => ?_⟩
  obtain ⟨c0, e1, e2⟩ := h3 pos cv hc
  exact ⟨c0, e1, b _ _ (ne_of e2 hx fun z => by unfold CodeO at z; cases z) (ne_of e2 hy fun z => by unfold CodeO at z; cases z) e2⟩
theorem NextAt.ext {h l : Addr} {H H' : Hp} (n : NextAt H h l) (s : ExtN H H') : NextAt H' h l :=
  let ⟨m, k, ns, a1, a2, c, d⟩ := n
  ⟨m, k, ns, s _ _ a1 (fun _ z => by cases z), s _ _ a2 (fun _ z => by cases z), c, d⟩
theorem tabs_upd {T : List (Addr × Str)} {D : Addr} {H : Hp} {xs ys : List V} (t : Tabs T H) (e : H D = some (.lst xs)) : Tabs T (upd H D (.lst ys)) := fun p hp => by
  obtain ⟨ps, h1, h2, h3⟩ := t p hp
  refine ⟨ps, by rw [upd_ne (ne_of h1 e fun z => nomatch z)]; exact h1, h2, fun pos cv hc => ?_⟩
  obtain ⟨c0, q1, q2⟩ := h3 pos cv hc
  exact ⟨c0, q1, by rw [upd_ne (ne_of q2 e fun z => by unfold CodeO at z; cases z)]; exact q2⟩
theorem rows_len (t : Str) : 1 + ((entsT t).length : Int) = ((lines t).length : Nat) ∧ (entsT t).length ≤ (lines t).length := by
  have := List.length_pos_iff.mpr (lines_tot t).2
  unfold entsT rowsT
  rw [List.length_map, List.length_drop, List.length_map]
  omega
theorem fnr_calm {P : Program} {w : World} {K : PySem.W.Frag} {mg : Str → Option Value} {base : Heap} {k : Nat} {f : Addr} {sp : Sp} (F : FnR P w K mg base (L2.CX P w) k f sp) : FnR P w K mg base CX0 k f (fun vs H Q _ => sp vs H Q E0) := by
  intro A outer s H us vs Q E hr e0 r h
  refine codeAny_mono (F A outer s H us vs Q E0 hr e0 r h) fun z s' hq => ?_
  cases z with
  | error e =>
    obtain ⟨_, _, _, _, _, _, _, _, _, _, _, _, q⟩ := hq
    exact q.elim
  | ok fl =>
    cases fl with
    | ret u => exact hq
    | next => exact hq
    | brk => exact hq
    | cont => exact hq
def NumAt (H : Hp) (v : V) : Prop := ∃ t, v = .ref t ∧ H t = some (.tup [.str "number"])
theorem dp_num {K : PySem.W.Frag} {H : Hp} : ∀ {vs : List V}, (∀ v ∈ vs, NumAt H v) → DpAll K H vs (List.replicate vs.length (PyData.tuple [.str "number"]))
  | [], _ => .nil
  | v :: vs, h => by
    obtain ⟨t, rfl, ht⟩ := h v List.mem_cons_self
    exact .cons (.tup (SqT.of ht) (.cons (.str _) .nil)) (dp_num fun u hu => h u (List.mem_cons_of_mem _ hu))
/-- a daybook that the law has made: where it stands -/
structure DayK (CD CEn TU h l : Addr) (H : Hp) (x dx le : Addr) (l0 : Str) (c : Int) (vs : List V) (es : List Ent) : Prop where
  ex : H x = some (.ins CD dx (dyL l0 c le))
  el : H le = some (.lst vs)
  hp : Paired (EntQ CEn TU H) vs es
  n1 : le ≠ h
  n2 : le ≠ l
section
variable {CD CEn TU h l x dx le : Addr} {H H' : Hp} {l0 : Str} {c : Int} {vs : List V} {es : List Ent}
theorem DayK.at_ (d : DayK CD CEn TU h l H x dx le l0 c vs es) : DayAt CD CEn TU H x l0 c es := ⟨dx, le, vs, d.ex, d.el, d.hp⟩
theorem DayK.same (d : DayK CD CEn TU h l H x dx le l0 c vs es) (s : Same H H') : DayK CD CEn TU h l H' x dx le l0 c vs es := ⟨s _ _ d.ex, s _ _ d.el, pair_mono (fun a b e => entq_same e s) d.hp, d.n1, d.n2⟩
theorem entq_keep {v : V} {e : Ent} (q : EntQ CEn TU H v e) (k1 : ∀ a us, H a = some (.tup us) → H' a = some (.tup us)) (k2 : ∀ a C dx fs, H a = some (.ins C dx fs) → H' a = some (.ins C dx fs)) (k3 : ∀ a (ws : List Str), ws ≠ [] → H a = some (.lst (ws.map V.str)) → H' a = some (.lst (ws.map V.str))) : EntQ CEn TU H' v e := by
  obtain ⟨p, dx, lw, sv, ev, ep, elw, es, eo⟩ := q
  refine ⟨p, dx, lw, sv, ev, k2 _ _ _ _ ep, k3 _ _ eo.1 elw, ?_, eo⟩
  cases he : e.st with
  | none =>
    rw [he] at es
    exact es
  | some s =>
    rw [he] at es
    obtain ⟨t, e1, q⟩ := es
    exact ⟨t, e1, stq_mono q k1⟩
theorem DayK.ext (d : DayK CD CEn TU h l H x dx le l0 c vs es) (s : ExtN H H') : DayK CD CEn TU h l H' x dx le l0 c vs es :=
  ⟨s _ _ d.ex (fun _ z => by cases z), s _ _ d.el (fun _ z => by cases z), pair_mono (fun a b e => entq_keep e (fun _ _ z => s _ _ z (fun _ y => by cases y)) (fun _ _ _ _ z => s _ _ z (fun _ y => by cases y)) fun _ _ _ z => s _ _ z (fun _ y => by cases y)) d.hp, d.n1, d.n2⟩
theorem strs_ne {ws : List Str} {m k : Int} {q : Addr} (hw : ws ≠ []) : some (HO.lst (ws.map V.str)) ≠ some (HO.lst [.int m, .ref q, .int k]) := fun z => by
  injection z with z
  injection z with z
  cases ws with
  | nil => exact hw rfl
  | cons a r =>
    injection z with z _
    cases z
theorem strs_ints {ws : List Str} {ns : List Int} (hw : ws ≠ []) : some (HO.lst (ws.map V.str)) ≠ some (HO.lst (ns.map V.int)) := fun z => by
  injection z with z
  injection z with z
  cases ws with
  | nil => exact hw rfl
  | cons a r =>
    cases ns with
    | nil => cases z
    | cons b r2 =>
      injection z with z _
      cases z
theorem DayK.but2 (d : DayK CD CEn TU h l H x dx le l0 c vs es) (n : NextAt H h l) (b : But2 h l H H') : DayK CD CEn TU h l H' x dx le l0 c vs es := by
  refine ⟨b.ins n d.ex, b _ _ d.n1 d.n2 d.el, pair_mono (fun v e q => entq_keep q (b.tup n) (fun _ _ _ _ z => b.ins n z) fun a ws hw z => ?_) d.hp, d.n1, d.n2⟩
  obtain ⟨m, k, ns, e1, e2, _, _⟩ := n
  refine b _ _ (fun y => ?_) (fun y => ?_) z
  · rw [y, e1] at z
    exact strs_ne hw z.symm
  · rw [y, e2] at z
    exact strs_ints hw z.symm
/-- a list of ints may change -/
theorem DayK.updI {g : Addr} {ns : List Int} {o : HO} (d : DayK CD CEn TU h l H x dx le l0 c vs es) (e : H g = some (.lst (ns.map V.int))) (n : le ≠ g) : DayK CD CEn TU h l (upd H g o) x dx le l0 c vs es := by
  refine ⟨by rw [upd_ne (ne_of d.ex e fun z => nomatch z)]; exact d.ex, by rw [upd_ne n]; exact d.el, pair_mono (fun v e' q => entq_keep q (fun a us z => by rw [upd_ne (ne_of z e fun y => nomatch y)]; exact z) (fun a C dx fs z => by rw [upd_ne (ne_of z e fun y => nomatch y)]; exact z) fun a ws hw z => ?_) d.hp, d.n1, d.n2⟩
  rw [upd_ne (fun y => by rw [y, e] at z; exact strs_ints hw z.symm)]
  exact z
end
theorem smd_scal {K : PySem.W.Frag} {H : Hp} {v : V} (s : Scal v) : ∀ n, SmD K H n v v
  | 0 => ⟨rfl, s⟩
  | n + 1 => .inl (smd_scal s n)
theorem smd_pair {K : PySem.W.Frag} {H : Hp} {p q : Addr} {u v : V} (su : Scal u) (sv : Scal v) (n : Nat) (e : (H p = some (.lst [u, v]) ∧ H q = some (.lst [u, v])) ∨ (TupK K H p [u, v] ∧ TupK K H q [u, v])) : SmD K H (n + 1) (.ref p) (.ref q) :=
  .inr ⟨p, q, [u, v], [u, v], rfl, rfl, by show 2 ≤ 100000; decide, .cons (smd_scal su n) (.cons (smd_scal sv n) .nil), e⟩
theorem scal_bdW (o : Option Nat) : Scal (bdW o) := by
  cases o with
  | none => exact .inr (.inr (.inr rfl))
  | some k => exact .inl ⟨_, rfl⟩
theorem scal_str (x : Str) : Scal (.str x) := .inr (.inl ⟨x, rfl⟩)
theorem scal_int (i : Int) : Scal (.int i) := .inl ⟨i, rfl⟩
theorem ents_of {t l0 : Str} {xs : List Str} (h : lines t = l0 :: xs) : entsT t = xs.map lnE ∧ rowsT t = wordsB l0 :: xs.map wordsB := by
  have e : rowsT t = wordsB l0 :: xs.map wordsB := by
    unfold rowsT
    rw [h]
    rfl
  refine ⟨?_, e⟩
  unfold entsT
  rw [e]
  show (xs.map wordsB).map entF = _
  rw [List.map_map]
  rfl
theorem bad_none {l0 t : Str} {xs : List Str} {c : Int} (hl : lines t = l0 :: xs) (hc : headV (wordsB l0) = some c) (hr : ∀ x ∈ xs, rowOk c (wordsB x) = true) (hz : xs.length ≤ 200) : badF (rowsT t) = none := by
  rw [(ents_of hl).2]
  show (match headV (wordsB l0) with | none => some 0 | some c => badFrom c 1 (xs.map wordsB)) = none
  rw [hc]
  refine badFrom_none fun j ws hw => ?_
  rw [List.getElem?_map] at hw
  obtain ⟨x, hx, rfl⟩ := Option.map_eq_some_iff.mp hw
  have := (List.getElem?_eq_some_iff.mp hx).1
  exact ⟨by omega, hr x (List.mem_of_getElem? hx)⟩
def spDayInitQ (CD CE CX TU : Addr) : Sp := fun vs H Q _ => spDayInit CD CE CX TU vs H Q E0
/-- a daybook made of lines -/
theorem made_day {CD CEn CX TU : Addr} {H1 : Hp} {t l0 : Str} {xs : List Str} {c : Int} {h l x dx : Addr} {R : Hp → Prop} (n : NextAt H1 h l) (ok : okS t) (lt : t.length ≤ 3000) (hl : lines t = l0 :: xs) (hc : headV (wordsB l0) = some c) (hr : ∀ x ∈ xs, rowOk c (wordsB x) = true) (hz : xs.length ≤ 200) (ll : ∀ y ∈ lines t, y.length ≤ 600) (hx : H1 x = none) (hdx : H1 dx = none)
    (k : ∀ H' d le vs, Same H1 H' → DayK CD CEn TU h l H' x d le l0 c vs (xs.map lnE) → R H') : spDayInitQ CD CEn CX TU (.ref x :: [.str t]) (upd (upd H1 dx (.own x)) x (.ins CD dx [])) (fun v H2 => v = .non ∧ R H2) E0 := by
  obtain ⟨e1, e2⟩ := ents_of hl
  have hb := bad_none hl hc hr hz
  refine ⟨x, dx, t, rfl, upd_same, ok, lt, ll, fun c' hc' _ H' b D => ⟨rfl, ?_⟩, fun k' hk => by rw [hb] at hk; cases hk⟩
  have s1 := same_made (C := CD) hx hdx
  have s2 := same_but hx s1 b
  rw [e2] at hc'
  have hcc : c' = c := by
    have : headV (wordsB l0) = some c' := hc'
    rw [hc] at this
    injection this with this
    exact this.symm
  subst hcc
  obtain ⟨dx', le, vs, ex, el, hp, hle⟩ := D
  have h0 : at0 (lines t) 0 = l0 := by rw [hl]; rfl
  rw [h0] at ex
  rw [e1] at hp
  have m1 := s1 _ _ n.h1.choose_spec
  have m2 := s1 _ _ n.l1.choose_spec
  exact k H' dx' le vs s2 ⟨ex, el, hp, (ne_of_none m1 hle).symm, (ne_of_none m2 hle).symm⟩
theorem rights_in {c : Int} : ∀ {es : List Ent} {r : Int}, (∀ e ∈ es, EntC c e) → 0 ≤ r → r ≤ c → ∀ o ∈ rightsF c es r, ∀ n, o = some n → 0 ≤ n ∧ n ≤ c
  | [], r, _, _, _, o, ho, _, _ => by cases ho
  | e :: es, r, he, r0, r1, o, ho, n, hn => by
    have hec := he e List.mem_cons_self
    rcases (List.mem_cons.mp ho) with h | h
    · rw [h] at hn
      exact right_in hec r0 r1 hn
    · have nx : 0 ≤ nextF c e r ∧ nextF c e r ≤ c := endF_in (es := [e]) (fun z hz => by rw [List.mem_singleton.mp hz]; exact hec) r0 r1
      exact rights_in (fun z hz => he z (List.mem_cons_of_mem _ hz)) nx.1 nx.2 o h n hn
theorem fills_tot' {c : Int} (hc : c ≤ 1000000000000000000) : ∀ {es : List Ent} {os : List (Option Int)}, (∀ e ∈ es, tot e.ws ≤ 700) → (∀ o ∈ os, ∀ n, o = some n → 0 ≤ n ∧ n ≤ c) → tot (fillsF es os) ≤ 800 * es.length
  | [], _, _, _ => (Nat.zero_le _)
  | e :: es, [], _, _ => Nat.zero_le _
  | e :: es, o :: os, he, ho => by
    have ih := fills_tot' hc (es := es) (os := os) (fun z hz => he z (List.mem_cons_of_mem _ hz)) (fun z hz => ho z (List.mem_cons_of_mem _ hz))
    have h1 := he e List.mem_cons_self
    have jl := join_len_le (y := " ") (by decide +kernel) (fillW e.ws o)
    have ft : tot (fillW e.ws o) ≤ 730 := by
      cases o with
      | none => exact Nat.le_trans h1 (by decide)
      | some n =>
        obtain ⟨b0, b1⟩ := ho _ List.mem_cons_self n rfl
        obtain ⟨m, rfl⟩ := Int.eq_ofNat_of_zero_le b0
        show tot (e.ws.dropLast ++ [nS m]) ≤ 730
        have : (nS m).length ≤ 19 := by
          rw [len_tl, nS_tl]
          exact numL_len (by decide) (by omega)
        rw [tot_append, tot_cons]
        have : tot e.ws.dropLast ≤ tot e.ws := by
          rw [List.dropLast_eq_take]
          have := tot_take_le e.ws (e.ws.length - 1)
          omega
        have : tot ([] : List Str) = 0 := rfl
        omega
    show tot (Txt.join " " (fillW e.ws o) :: fillsF es os) ≤ _
    rw [tot_cons, List.length_cons]
    omega
theorem fills_tot {c r : Int} {es : List Ent} (he : ∀ e ∈ es, EntC c e ∧ tot e.ws ≤ 700) (r0 : 0 ≤ r) (r1 : r ≤ c) (hc : c ≤ 1000000000000000000) : tot (fillsF es (rightsF c es r)) ≤ 800 * es.length :=
  fills_tot' hc (fun e h => (he e h).2) (rights_in (fun e h => (he e h).1) r0 r1)
theorem far_lines (n : Nat) : lines (Str.ofString "chairs " ++ nS n ++ Str.ofString "\nred 5 carried ?\nblue 7 carried 3\nturn\nblue has ?") = (Str.ofString "chairs " ++ nS n) :: farX := by
  refine lines_of' ?_ (by simp) fun p hp => ?_
  · rw [tl_append, show tl (Str.ofString "\nred 5 carried ?\nblue 7 carried 3\nturn\nblue has ?") = 10 :: joinL [10] (farX.map tl) by decide +kernel]
    rfl
  · rcases (List.mem_cons.mp hp) with rfl | hp
    · rw [tl_append]
      intro z
      rcases List.mem_append.mp z with z | z
      · exact absurd z (by decide +kernel)
      · exact nS_free (by omega) z
    · exact (far_rows p hp).2.2.1
theorem wide_lines (n : Nat) : lines (Str.ofString "chairs " ++ nS n ++ Str.ofString "\nred 5 carried 0\nturn\nred 7 carried 0\nblue has ?") = (Str.ofString "chairs " ++ nS n) :: wideX := by
  refine lines_of' ?_ (by simp) fun p hp => ?_
  · rw [tl_append, show tl (Str.ofString "\nred 5 carried 0\nturn\nred 7 carried 0\nblue has ?") = 10 :: joinL [10] (wideX.map tl) by decide +kernel]
    rfl
  · rcases (List.mem_cons.mp hp) with rfl | hp
    · rw [tl_append]
      intro z
      rcases List.mem_append.mp z with z | z
      · exact absurd z (by decide +kernel)
      · exact nS_free (by omega) z
    · exact (wide_rows p hp).2.2.1
theorem nS_len19 {n : Nat} (h : n ≤ 1000000000000000000) : (nS n).length ≤ 19 := by
  rw [len_tl, nS_tl]
  exact numL_len (by decide) (by omega)
theorem two_eqv (a b : Int) : SeqAt.shaped (.tuple [.int a, .int b]) = true ∧ PyData.eqv (.tuple [.int a, .int b]) (.tuple [.int a, .int b]) = true := by
  refine ⟨?_, ?_⟩
  · unfold SeqAt.shaped
    show ((PyData.canLay0 (.int a) && (PyData.canLay0 (.int b) && true)) && decide (max 0 (max 0 0) + 1 ≤ 64)) = true
    rfl
  · show ((a == a) && ((b == b) && true)) = true
    simp
theorem far_sz {a b : Nat} (h : a ≤ 26) (k : b ≤ 60) : a + b ≤ sizeLine := by
  rw [sizeLine_eq]
  omega
abbrev tOutL (X : Cx) (k : Nat) (CE e0 e1 e2 e3 e4 e5 e6 e7 e8 : Addr) (σ : L2.St) (f : Addr) (H : Hp) (Q : VK) : Prop :=
  CanAct X k σ f (OutA X.K CE e0 e1 e2 e3 e4 e5 e6 e7 e8 Q) H (outQ Q)
def spCheckQ (CD CE TU CN : Addr) : Sp := fun vs H Q _ => spCheck CD CE TU CN vs H Q E0
def spFilledQ (CD CE TU CN : Addr) : Sp := fun vs H Q _ => spFilled CD CE TU CN vs H Q E0
section
variable {P : Program} {w : World} {K : PySem.W.Frag} {mg : Str → Option Value} {base : Heap} {C CER CD CEn CX CN TU pS gS e0 e1 e2 e3 e4 e5 e6 e7 e8 pR gR : Addr} {mc : Value} {fdR : FuncData}
abbrev sLaw : Stmt := top 52
abbrev nLaw : List Str := ["_law_script", "_law_h", "_law_turn", "_law_chairs", "_law_rows_here", "_law_daybook", "_law_good", "_law_start", "_law_found", "_law_wrong", "_law_due", "_law_far", "_law_wide", "_law_k", "_law_call"]
abbrev qLam : Str := (envOfC "law" (defScope sLaw) 0 0 .none).qual ++ "<lambda>"
abbrev XL (P : Program) (w : World) (K : PySem.W.Frag) (mg : Str → Option Value) (base : Heap) (f c : Addr) (A : Around) (outer : List Env) (s : Shared) (H : Hp) (E : XK) : Cx := (cxOf CX0 P w K mg base nLaw "law" (defScope sLaw) f (.ref c) A outer s H E).nox
theorem scLaw : FnScope nLaw ["_law_script"] (defScope sLaw) := ⟨rfl, rfl, rfl, by decide +kernel, rfl, by decide +kernel, by decide +kernel⟩
theorem ok_law {f c Pt f__law_mix f__law_next f__law_rows f__law_right f__law_alike fO fDi fF fC fL : Addr} {oc kV doc pm ct : Value} {od an : Option Addr} {osl : Array (Option Value)} {fdO : FuncData}
    (lk : K.lookup f = some ⟨oc, od, .func (PySem.W.fnOf "law" "law" (defArgs sLaw) (defBody sLaw) (defScope sLaw) .none kV doc pm an (.ref c) ct), osl⟩) (hcd : PySem.W.codeIn K (.ref c) "law" = true) (TB : TabB base mg c Pt) (T : Txt K mg C TU pS gS mc)
    (D__law_mix : Dn P w K mg base 1 "_law_mix" f__law_mix (spMix K)) (D__law_next : Dn P w K mg base 1 "_law_next" f__law_next spNext) (D__law_rows : Dn P w K mg base 2 "_law_rows" f__law_rows spRowsL) (D__law_right : Dn P w K mg base 2 "_law_right" f__law_right spRight) (D__law_alike : Dn P w K mg base 3 "_law_alike" f__law_alike (spAlike K 2))
    (FO : Fun K "_law_outcome" "_law_outcome" sOutcome fO fdO) (atO : mg "_law_outcome" = some (.ref fO)) (kpO : PySem.W.keepIn K (.ref fO) = true) (bO : Binds K fdO ["_law_call"] []) (hCE : mg "ChairError" = some (.ref CER)) (NG : Nine mg e0 e1 e2 e3 e4 e5 e6 e7 e8) (KN : IsKind K CER e0 e1 e2 e3 e4 e5 e6 e7 e8 CN "number") (D : DTxt K CD) (MD : Mk K CD fDi) (GD : FnR P w K mg base CX0 4 fDi (spDayInitQ CD CEn CX TU)) (gD : mg "Daybook" = some (.ref CD)) (PR : PropOf K CD "row_count" pR gR) (ORow : FnOk P w K mg base CX0 1 gR fdR ["self"] (spRows CD CEn TU)) (bR : Binds K fdR ["self"] []) (MF : Meth K CD "fitting_starts" fF) (GF : FnR P w K mg base CX0 5 fF (spFit CD CEn TU)) (MC : Meth K CD "check" fC) (GC : FnR P w K mg base CX0 4 fC (spCheckQ CD CEn TU CN)) (ML : Meth K CD "filled" fL) (GL : FnR P w K mg base CX0 4 fL (spFilledQ CD CEn TU CN)) (GCX : FnR P w K mg base (L2.CX P w) 4 fC (spCheck CD CEn TU CN)) (GLX : FnR P w K mg base (L2.CX P w) 4 fL (spFilled CD CEn TU CN)) :
    FnOk P w K mg base CX0 10 f (PySem.W.fnOf "law" "law" (defArgs sLaw) (defBody sLaw) (defScope sLaw) .none kV doc pm an (.ref c) ct) ["_law_script"] (spLawT K Pt) := by
  have B := T.b
  refine fn_of lk hcd scLaw (fun vs H Q E h => ?_) fun A outer s H vs Q E hr h => ?_
  · obtain ⟨a, ns, rfl, _⟩ := h
    rfl
  · obtain ⟨a, ns, rfl, hF, hlen, hPt, k⟩ := h
    suffices h : ∃ t, PSs (XL P w K mg base f c A outer s H E) (defBody sLaw) t ∧ t { nx := fun _ H' => Q .non H', rt := Q } (start nLaw [.ref a]) H from let ⟨t, h1, h2⟩ := h; ⟨t, h1.nox, h2⟩
    have hm : (Pt, (XL P w K mg base f c A outer s H E).env.qual ++ "<lambda>") ∈ [(Pt, qLam)] := List.mem_singleton.mpr rfl
    have hu : ∀ p ∈ [(Pt, qLam)], p.1 = Pt → p.2 = (XL P w K mg base f c A outer s H E).env.qual ++ "<lambda>" := fun p hp _ => by rw [List.mem_singleton.mp hp]; rfl
    refine ⟨_, pss_cons (ps_set (i := 1) scLaw.nd rfl (.inl rfl) (pe_callR D__law_mix.ok (hr.mono (by decide)) rfl D__law_mix.at_ D__law_mix.kp pass0 (pa_cons (pv 0) (pa_cons pe_int pa_nil))))
      (pss_cons (ps_for PassesOwn.never rfl (pi_range1 rfl T.b.range (pa_cons pe_int pa_nil)) (pg_name (i := 2) scLaw.nd rfl (.inl rfl))
        (pss_cons (ps_set (i := 3) scLaw.nd rfl (.inl rfl) (pe_callR D__law_next.ok (hr.mono (by decide)) rfl D__law_next.at_ D__law_next.kp pass0 (pa_cons (pv 1) (pa_cons pe_int pa_nil))))
        (pss_cons (ps_set (i := 4) scLaw.nd rfl (.inl rfl) (pe_callR D__law_rows.ok (hr.mono (by decide)) rfl D__law_rows.at_ D__law_rows.kp pass0 (pa_cons (pv 1) (pa_cons (pv 3) (pa_cons (pe_callR D__law_next.ok (hr.mono (by decide)) rfl D__law_next.at_ D__law_next.kp pass0 (pa_cons (pv 1) (pa_cons (pe_op op_add (pv 3) pe_int) pa_nil))) (pa_cons pe_int pa_nil))))))
        (pss_cons (ps_asg (pe_tup (pa_cons (StX.pe_makeR MD GD (hr.mono (by decide)) rfl gD pass0 (pa_cons (pe_join pe_str (pv 4)) pa_nil)) (pa_cons (pe_lst pa_nil) pa_nil))) (pg_tup rfl (pgs_cons (pg_name (i := 5) scLaw.nd rfl (.inr rfl)) (pgs_cons (pg_name (i := 6) scLaw.nd rfl (.inl rfl)) pgs_nil))))
        (pss_cons (ps_for PassesOwn.never rfl (pi_range1 rfl T.b.range (pa_cons (pe_op op_add (pv 3) pe_int) pa_nil)) (pg_name (i := 7) scLaw.nd rfl (.inl rfl))
          (pss_cons (ps_asg (pe_callR D__law_right.ok (hr.mono (by decide)) rfl D__law_right.at_ D__law_right.kp pass0 (pa_cons (pv 4) (pa_cons (pv 3) (pa_cons (pv 7) pa_nil)))) (pg_tup rfl (pgs_cons (pg_name (i := 8) scLaw.nd rfl (.inl rfl)) (pgs_cons (pg_name (i := 9) scLaw.nd rfl (.inl rfl)) pgs_nil))))
          (pss_cons (ps_if (pt_not (pt_val (pe_callR D__law_alike.ok (hr.mono (by decide)) rfl D__law_alike.at_ D__law_alike.kp pass0 (pa_cons (pe_lst (pa_cons (pe_methR (pv 5) D.cl MC GC (hr.mono (by decide)) pass0 (pa_cons (pv 7) pa_nil)) (pa_cons (pe_methR (pv 5) D.cl ML GL (hr.mono (by decide)) pass0 (pa_cons (pv 7) pa_nil)) pa_nil))) (pa_cons (pe_lst (pa_cons (pv 9) (pa_cons (pe_join pe_str (pv 8)) pa_nil))) pa_nil)))))
            (pss_one (ps_ret pe_bl)) pss_nil)
          (pss_one (ps_if (pt_cmpR op_isN (pv 9) pe_non (nomark _))
            (pss_one (ps_expr (pe_bm PySem.F.plainAttrs_list PySem.F.slot_list_append PySem.F.type_list_append mt_append (pv 6) (pa_cons (pv 7) pa_nil)))) pss_nil)))))
        (C8.pss_cut (ps_if (pt_not (pt_val (pe_callR D__law_alike.ok (hr.mono (by decide)) rfl D__law_alike.at_ D__law_alike.kp pass0 (pa_cons (pe_methR0 (pv 5) D.cl MF GF (hr.mono (by decide)) pass0) (pa_cons (pe_ifExp (pt_cmpR (op_neD hr.units) (pv 6) (pe_lst pa_nil) (nomark _)) (pe_tup (pa_cons (pe_ix ix_list (pv 6) pe_int (fun _ _ => rfl)) (pa_cons (pe_ix ix_list (pv 6) (pe_un un_neg pe_int) (fun _ _ => rfl)) pa_nil))) pe_non) pa_nil)))))
          (pss_one (ps_ret pe_bl)) pss_nil)
        (C8.pss_cut (ps_set (i := 10) scLaw.nd rfl (.inl rfl) (pe_ifExp (pt_cmpR (op_neD hr.units) (pv 6) (pe_lst pa_nil) (nomark _)) (pe_lc (own := [("_law_k", 13)]) (g := gName 13) (tt := tYes) (te := (tVar 13)) rfl scLaw.nd (pi_range2 rfl T.b.range (pa_cons (pe_ix ix_list (pv 6) pe_int (fun _ _ => rfl)) (pa_cons (pe_op op_add (pe_ix ix_list (pv 6) (pe_un un_neg pe_int) (fun _ _ => rfl)) pe_int) pa_nil))) (blkOk_by (N := nLaw) (sc := defScope sLaw) (by decide +kernel)) (fun _ _ _ _ _ => pg_name (i := 13) scLaw.nd rfl (.inl rfl)) (fun _ _ _ _ _ => by exact pts_nil) (fun _ _ _ _ _ => by exact (pv 13))) (pe_lst pa_nil)))
        (C8.pss_cut (ps_if (PW.pt (pw_or (pt_cmpR (op_neD hr.units) (pv 6) (pv 10) (nomark _)) (pw_or1 (pt_cmpR op_ne (pe_prop (pv 5) D.cl PR ORow (hr.mono (by decide)) bR .nil pass0 rfl) (pe_callB call_len_seq (by rfl) T.b.len PySem.boot_len (pa_cons (pv 4) pa_nil)) (nomark _)))))
          (pss_one (ps_ret pe_bl)) pss_nil)
        (pss_cons (ps_set (i := 11) scLaw.nd rfl (.inr rfl) (pe_ix ix_list (pe_lst (pa_cons (pe_un un_neg pe_int) (pa_cons (pe_op op_add (pv 3) pe_int) pa_nil))) (pe_callR D__law_next.ok (hr.mono (by decide)) rfl D__law_next.at_ D__law_next.kp pass0 (pa_cons (pv 1) (pa_cons pe_int pa_nil))) (fun _ _ => rfl)))
        (pss_one (ps_if (pt_cmpR (op_neD hr.units) (pe_lcI (own := [("_law_call", 14)]) (g := gName 14) (tt := tYes) (te := fun σ σB H' Q => ∃ f', σB[14]? = some (some (.ref f')) ∧ tOutL (XL P w K mg base f c A outer s H E) 5 CER e0 e1 e2 e3 e4 e5 e6 e7 e8 σ f' H' Q) rfl scLaw.nd (pi_list (pe_lst (pa_cons (pe_lam0 TB rfl hm hu rfl rfl fun ok => (lamN_by (N := nLaw) (sc := defScope sLaw) (by decide +kernel)).has ok) (pa_cons (pe_lam1 TB rfl hm hu rfl pe_int fun ok => (lamN_by (N := nLaw) (sc := defScope sLaw) (by decide +kernel)).has ok) pa_nil)))) (blkOk_by (N := nLaw) (sc := defScope sLaw) (by decide +kernel)) (fun _ _ _ _ _ => pg_name (i := 14) scLaw.nd rfl (.inl rfl)) (fun _ _ _ _ _ => pts_nil) (fun pins σ s H C' cl fp I hfp => by exact pe_outI (k := 5) I hfp FO atO kpO bO hCE NG B (hr.mono (by decide)) (by rfl) rfl (.inl rfl))) (pe_op op_rep (pe_lst (pa_cons (pe_tup (pa_cons pe_str pa_nil)) pa_nil)) pe_int) (nomark _))
          (pss_one (ps_ret pe_bl)) pss_nil)))))))))))
      (pss_cons (ps_set (i := 3) scLaw.nd rfl (.inl rfl) (pe_op op_sub (pe_op op_pow pe_int pe_int) (pe_callR D__law_next.ok (hr.mono (by decide)) rfl D__law_next.at_ D__law_next.kp pass0 (pa_cons (pv 1) (pa_cons (pe_op op_pow pe_int pe_int) pa_nil)))))
      (pss_cons (ps_set (i := 11) scLaw.nd rfl (.inr rfl) (StX.pe_makeR MD GD (hr.mono (by decide)) rfl gD pass0 (pa_cons (pe_op op_add_str (pe_op op_add_str pe_str (pe_callTy call_str_int (by rfl) T.b.str (by decide +kernel) (pa_cons (pv 3) pa_nil))) pe_str) pa_nil)))
      (pss_cons (ps_if (PW.pt (pw_or (pt_cmpR (op_neD hr.units) (pe_methR0 (pv 11) D.cl MF GF (hr.mono (by decide)) pass0) (pe_tup (pa_cons (pe_op op_sub (pv 3) pe_int) (pa_cons (pe_op op_sub (pv 3) pe_int) pa_nil))) (nomark _)) (pw_or (pt_cmpR op_notN (pe_methR (pv 11) D.cl MC GC (hr.mono (by decide)) pass0 (pa_cons (pe_op op_sub (pv 3) pe_int) pa_nil)) pe_non (nomark _)) (pw_or1 (pt_cmpR op_ne (pe_prop (pv 11) D.cl PR ORow (hr.mono (by decide)) bR .nil pass0 rfl) pe_int (nomark _))))))
        (pss_one (ps_ret pe_bl)) pss_nil)
      (pss_cons (ps_set (i := 12) scLaw.nd rfl (.inl rfl) (StX.pe_makeR MD GD (hr.mono (by decide)) rfl gD pass0 (pa_cons (pe_op op_add_str (pe_op op_add_str pe_str (pe_callTy call_str_int (by rfl) T.b.str (by decide +kernel) (pa_cons (pv 3) pa_nil))) pe_str) pa_nil)))
      (pss_one (ps_ret (pe_cmpR (op_eqD hr.units) (pe_methR0 (pv 12) D.cl MF GF (hr.mono (by decide)) pass0) (pe_tup (pa_cons pe_int (pa_cons (pe_op op_sub (pv 3) pe_int) pa_nil))) (nomark _))))))))), ?_⟩
    have tb0 : Tabs [(Pt, qLam)] H := fun p hp => by rw [List.mem_singleton.mp hp]; exact TabS.nil hPt
    refine ⟨_, rfl, a, ns, 46, rfl, hF, hlen, fun h l H1 _ _ s1 N1 => ?_⟩
    have T1 := Tabs.ext tb0 s1
    refine ⟨3, rfl, by decide, by decide, for_range (lo := 0) (n := 3) (fun i σ H' => ∃ (x2 x3 x4 x5 x6 x7 x8 x9 x10 x11 : Option V), σ = [some (.ref a), some (.ref h), x2, x3, x4, x5, x6, x7, x8, x9, x10, x11, none, none, none] ∧ NextAt H' h l ∧ Tabs [(Pt, qLam)] H')
      ⟨none, none, none, none, none, none, none, none, none, none, rfl, N1, T1⟩ ?_ ?_⟩
    · rintro i0 σ H2 hi0 ⟨x2, x3, x4, x5, x6, x7, x8, x9, x10, x11, rfl, N2, T2⟩
      refine ⟨_, rfl, h, l, 13, rfl, N2, by decide, by decide, fun ch H3 c0 c1 N3 b3 => ?_⟩
      have T3 := tabs_but2 T2 b3 N2
      refine ⟨_, rfl, _, rfl, _, rfl, _, rfl, _, _, rfl, rfl, h, l, ch + 1, rfl, N3, by omega, by omega, fun r H4 r0 r1 N4 b4 => ?_⟩
      have T4 := tabs_but2 T3 b4 N3
      refine ⟨h, l, ch, r, 3, rfl, N4, c0, by omega, r0, by omega, by decide, by decide, fun q H5 xs N5 b5 hq ea5 ok5 xl => ?_⟩
      have T5 := tabs_but2 T4 b5 N4
      have qh : q ≠ h := let ⟨_, e⟩ := N4.h1; (ne_of_none e hq).symm
      have ql : q ≠ l := let ⟨_, e⟩ := N4.l1; (ne_of_none e hq).symm
      have hnl : Str.length "\n" = 1 := by decide +kernel
      have cl2 := nS_len (n := ch.toNat) (by omega)
      have hl7 : (Str.ofString "chairs ").length = 7 := by decide +kernel
      obtain ⟨hd1, hd2⟩ := head_row ch.toNat (by omega)
      have hcc : ((ch.toNat : Nat) : Int) = ch := by omega
      rw [hcc] at hd1
      have l0ok : okS (Str.ofString "chairs " ++ nS ch.toNat) := okS_app (okS_of (by decide +kernel)) (nS_ok _)
      have l0len : (Str.ofString "chairs " ++ nS ch.toNat).length ≤ 9 := by
        rw [app_len]
        omega
      generalize Str.ofString "chairs " ++ nS ch.toNat = l0 at *
      have tl0 : tot (l0 :: xs) ≤ 200 := by
        have : ∀ ys : List Str, (∀ x ∈ ys, LineOk ch x) → tot ys ≤ 21 * ys.length := fun ys => by
          induction ys with
          | nil => exact fun _ => Nat.le_refl _
          | cons y ys ih =>
            intro hy
            have a1 := ih fun x hx => hy x (List.mem_cons_of_mem _ hx)
            have a2 := (hy y List.mem_cons_self).2.1
            rw [tot_cons, List.length_cons]
            omega
        have := this xs ok5
        rw [tot_cons]
        omega
      have jl := join_len_le hnl (l0 :: xs)
      have jok : okS (Txt.join "\n" (l0 :: xs)) := join_ok (okS_of (by decide +kernel)) fun x hx => by
        rcases (List.mem_cons.mp hx) with rfl | hx
        · exact l0ok
        · exact (ok5 x hx).1
      have jln : lines (Txt.join "\n" (l0 :: xs)) = l0 :: xs := lines_of (by simp) fun p hp => by
        rcases (List.mem_cons.mp hp) with rfl | hp
        · exact hd2
        · exact (ok5 p hp).2.2.1
      have rows : ∀ x ∈ xs, rowOk ch (wordsB x) = true := fun x hx => (ok5 x hx).2.2.2
      have ec : ∀ e ∈ xs.map lnE, EntC ch e := fun e he => by
        obtain ⟨x, hx, rfl⟩ := List.mem_map.mp he
        exact line_ent (ok5 x hx)
      have ec2 : ∀ e ∈ xs.map lnE, EntC ch e ∧ tot e.ws ≤ 700 := fun e he => ⟨ec e he, by
        obtain ⟨x, hx, rfl⟩ := List.mem_map.mp he
        have hw : (lnE x).ws = wordsB x := by
          unfold lnE entF
          split
          · rfl
          · split <;> rfl
        rw [hw, (words_tot x).1]
        have := (ok5 x hx).2.1
        omega⟩
      have el : (xs.map lnE).length = xs.length := List.length_map ..
      refine ⟨⟨_, rfl⟩, _, rfl, _, q, l0 :: xs, rfl, rfl, .inl (SqL.of ea5), join_sum hnl (by omega), fun x dx hx hdx _ => ?_⟩
      refine made_day (h := h) (l := l) (xs := xs) (l0 := l0) (c := ch) N5 jok (by omega) jln hd1 rows (by omega) (fun y hy => Nat.le_trans (short_lines jl y hy) (by omega)) hx hdx fun H6 d6 le vs s6 D6 => ?_
      clear hx hdx hq N2 T2 N3 T3 b3 N4 T4 b4 b5
      have N6 := N5.same s6
      have T6 := Tabs.ext T5 s6
      have ea6 := s6 _ _ ea5
      clear N5 T5 ea5 s6 jok jl
      refine ⟨by show 0 ≤ sizeLine; decide, fun g hg => ⟨by show 2 ≤ sizeLine; decide, fun tp htp => ⟨tp, _, rfl, SqT.of upd_same, rfl, _, _, rfl, _, _, rfl, rfl, ?_⟩⟩⟩
      have s7 := (same_upd (o := .lst []) hg).trans (same_upd (o := .tup [.ref x, .ref g]) htp)
      have g7 := (same_upd (o := .tup [.ref x, .ref g]) htp) _ _ (upd_same : upd H6 g (.lst []) g = some (.lst []))
      have gle : le ≠ g := ne_of_none D6.el hg
      have gq : q ≠ g := ne_of_none ea6 hg
      have gh : g ≠ h := let ⟨_, e⟩ := N6.h1; (ne_of_none e hg).symm
      have gl : g ≠ l := let ⟨_, e⟩ := N6.l1; (ne_of_none e hg).symm
      generalize upd (upd H6 g (.lst [])) tp (.tup [.ref x, .ref g]) = H7 at *
      have N7 := N6.same s7
      have T7 := Tabs.ext T6 s7
      have D7 := D6.same s7
      have ea7 := s7 _ _ ea6
      clear hg htp s7 N6 T6 D6 ea6
      have cN : (ch + 1 - 0).toNat = (ch + 1).toNat := by omega
      -- each start
      refine ⟨_, rfl, _, _, rfl, rfl, ch + 1, rfl, by omega, by omega, for_range (lo := 0) (n := (ch + 1).toNat) (fun i σ H' => ∃ (y7 y8 y9 : Option V), σ = [some (.ref a), some (.ref h), some (.int (0 + (i0 : Int))), some (.int ch), some (.ref q), some (.ref x), some (.ref g), y7, y8, y9, x10, x11, none, none, none] ∧ NextAt H' h l ∧ Tabs [(Pt, qLam)] H' ∧ DayK CD CEn TU h l H' x d6 le l0 ch vs (xs.map lnE) ∧ H' q = some (.lst ((l0 :: xs).map V.str)) ∧ H' g = some (.lst ((goodN ch (xs.map lnE) i).map V.int)) ∧ (goodN ch (xs.map lnE) i).length ≤ i)
        ⟨x7, x8, x9, rfl, N7, T7, D7, ea7, g7, Nat.le_refl 0⟩ ?_ ?_⟩
      · clear N7 T7 D7 ea7 g7
        rintro i σ H7 hi ⟨y7, y8, y9, rfl, N7, T7, D7, ea7, g7, gn7⟩
        have i1 : ((i : Nat) : Int) ≤ ch := by omega
        refine ⟨_, rfl, _, rfl, _, rfl, q, ch, (0 + (i : Int)), l0, xs, rfl, ea7, ok5, c0, by omega, by omega, by omega, xl, fun z f H8 s8 hf ez ef => ⟨z, _, rfl, SqT.of ez, rfl, _, _, rfl, _, _, rfl, rfl, ?_⟩⟩
        have ei : (0 : Int) + (i : Int) = (i : Int) := by omega
        rw [ei] at ez ef
        have N8 := N7.same s8
        have T8 := Tabs.ext T7 s8
        have D8 := D7.same s8
        have ea8 := s8 _ _ ea7
        have g8 := s8 _ _ g7
        have nf : f ≠ g := (ne_of_none g7 hf).symm
        clear N7 T7 D7 ea7 g7 s8 ez hf
        have lkc : (dyL l0 ch le).lookup ("check" : Str) = none := lkS (by decide) (lkS (by decide) (lkS (by decide) lkN))
        have lkf : (dyL l0 ch le).lookup ("filled" : Str) = none := lkS (by decide) (lkS (by decide) (lkS (by decide) lkN))
        refine ⟨_, rfl, x, d6, _, rfl, D8.ex, lkc, _, rfl, x, l0, ch, 0 + (i : Int), _, rfl, D8.at_, c0, by omega, by omega, ec, fun _ _ H9 s9 => ?_, fun nok => absurd ⟨by omega, by omega⟩ nok⟩
        refine ⟨_, rfl, x, d6, _, rfl, (D8.same s9).ex, lkf, _, rfl, x, l0, ch, 0 + (i : Int), _, rfl, (D8.same s9).at_, c0, by omega, by omega, by omega, ec2, fun _ _ H10 s10 => ?_, fun nok => absurd ⟨by omega, by omega⟩ nok⟩
        rw [ei]
        have ft := fills_tot ec2 (r := (i : Int)) (by omega) i1 (by omega)
        refine ⟨by show 2 ≤ sizeLine; decide, fun p1 hp1 => ⟨_, rfl, ⟨_, rfl⟩, _, rfl, _, f, _, rfl, rfl, .inl (SqL.of ((same_upd hp1) _ _ ((s9.trans s10) _ _ ef))), join_sum hnl (by rw [tot_cons]; omega), by show 2 ≤ sizeLine; decide, fun p2 hp2 => ⟨_, _, rfl, smd_pair (scal_bdW _) (scal_str _) 1 (.inl ⟨(same_upd hp2) _ _ upd_same, upd_same⟩), fun H11 s11 => ⟨_, rfl, iteF ?_⟩⟩⟩⟩
        have s811 := (((s9.trans s10).trans (same_upd hp1)).trans (same_upd hp2)).trans s11
        have N11 := N8.same s811
        have T11 := Tabs.ext T8 s811
        have D11 := D8.same s811
        have e11 := s811 _ _ ea8
        have g11 := s811 _ _ g8
        clear N8 T8 D8 ea8 g8 s811 s9 s10 s11 hp1 hp2 ft ef
        have gm : goodN ch (xs.map lnE) (i + 1) = goodN ch (xs.map lnE) i ++ (if checkF ch 1 (xs.map lnE) (i : Int) = none then [(i : Int)] else []) := rfl
        refine ⟨_, rfl, rfl, _, rfl, ?_⟩
        cases hck : checkF ch 1 (xs.map lnE) (i : Int) with
        | some j =>
          rw [hck, if_neg (fun z => nomatch z), List.append_nil] at gm
          refine ifF rfl ⟨_, _, _, rfl, N11, T11, D11, e11, by rw [gm]; exact g11, by rw [gm]; omega⟩
        | none =>
          rw [hck, if_pos rfl] at gm
          refine ifT rfl ⟨_, rfl, .inl ⟨rfl, _, SqL.of g11⟩, _, rfl, g, _, _, rfl, rfl, g11, by rw [List.length_map]; exact small_lt' (by omega), ⟨_, _, _, rfl, next_upd N11 gh gl, tabs_upd T11 g11, D11.updI g11 gle, by rw [upd_ne gq]; exact e11, ?_, ?_⟩⟩
          · rw [gm, upd_same, List.map_append]
            rfl
          · rw [gm, List.length_append]
            show _ + 1 ≤ _
            omega
      · rintro σ H8 ⟨y7, y8, y9, rfl, N8, T8, D8, ea8, g8, gn8⟩
        rw [good_all c0 ec] at g8 gn8
        obtain ⟨fr0, fr1⟩ := fit_range c0 ec
        have lkt : (dyL l0 ch le).lookup ("fitting_starts" : Str) = none := lkS (by decide) (lkS (by decide) (lkS (by decide) lkN))
        have hesl : (xs.map lnE).length ≤ 7 := by omega
        have gsz : ((((fitL ch (xs.map lnE)).1.2 - (fitL ch (xs.map lnE)).1.1 + 1).toNat : Nat) : Int) ≤ 14 := by omega
        generalize fe : fitL ch (xs.map lnE) = ft at *
        obtain ⟨⟨lo, hi⟩, sts⟩ := ft
        dsimp only at *
        have emp : ¬ lo ≤ hi → upL lo (hi - lo + 1).toNat = [] := fun z => by
          have : (hi - lo + 1).toNat = 0 := by omega
          rw [this]
          rfl
        have nemp : lo ≤ hi → ∃ k, (hi - lo + 1).toNat = k + 1 ∧ lo + (k : Int) = hi := fun z => ⟨(hi - lo).toNat, by omega, by omega⟩
        have at0' : lo ≤ hi → atI ((upL lo (hi - lo + 1).toNat).map V.int) 0 = some (.int lo) := fun z => by
          obtain ⟨k, hk, _⟩ := nemp z
          have := upL_at (lo := lo) (n := (hi - lo + 1).toNat) (i := 0) (by rw [hk]; exact Nat.succ_pos k)
          exact at_of (j := 0) rfl (by rw [List.getElem?_map, this]; show some (V.int (lo + 0)) = _; rw [Int.add_zero])
        have atl' : lo ≤ hi → atI ((upL lo (hi - lo + 1).toNat).map V.int) (-1) = some (.int hi) := fun z => by
          obtain ⟨k, hk, hl⟩ := nemp z
          rw [hk, upL_more, List.map_append, hl]
          exact atI_last _ _
        have hne : decide (upL lo (hi - lo + 1).toNat = []) = !decide (lo ≤ hi) := by
          by_cases z : lo ≤ hi
          · obtain ⟨k, hk, hl⟩ := nemp z
            rw [decide_eq_true z, hk]
            refine decide_eq_false fun y => ?_
            have := congrArg List.length y
            rw [upL_len] at this
            cases this
          · rw [emp z, decide_eq_false z]
            rfl
        generalize hns : upL lo (hi - lo + 1).toNat = gd at *
        have qe : PyData.eqv (.list (gd.map PyData.int)) (.list []) = !decide (lo ≤ hi) := (ints_eqv gd []).trans hne
        clear nemp
        -- the starts that fit
        refine ⟨fun σ H' => σ = [some (.ref a), some (.ref h), some (.int (0 + (i0 : Int))), some (.int ch), some (.ref q), some (.ref x), some (.ref g), y7, y8, y9, x10, x11, none, none, none] ∧ Same H8 H', ?_, ?_⟩
        · refine ⟨_, rfl, x, d6, _, rfl, D8.ex, lkt, x, l0, ch, _, rfl, D8.at_, by omega, ?_⟩
          unfold FitOut
          rw [fe]
          refine ⟨fun hle q2 H9 s9 e9 => ?_, fun hle H9 s9 => ?_⟩
          · refine ⟨_, rfl, by show 0 ≤ sizeLine; decide, fun p hp => ⟨_, _, .lst (SqL.of ((same_upd hp) _ _ (s9 _ _ g8))) (dp_intsG gd), .lst (SqL.of upd_same) .nil, ints_shaped gd, by decide +kernel, _, rfl, ifT (by rw [qe, decide_eq_true hle]; rfl) ?_⟩⟩
            have sp := same_upd (o := .lst []) hp
            generalize upd H9 p (.lst []) = H10 at *
            have g10 := sp _ _ (s9 _ _ g8)
            refine ⟨_, rfl, g, _, _, _, rfl, rfl, SqL.of g10, at0' hle, _, rfl, _, rfl, g, _, _, _, rfl, rfl, SqL.of g10, atl' hle, by show 2 ≤ sizeLine; decide, fun tq htq => ⟨_, _, rfl, smd_pair (scal_int _) (scal_int _) 1 (.inr ⟨TupK.of ((same_upd htq) _ _ (sp _ _ e9)), TupK.of upd_same⟩), fun H11 s11 => ⟨_, rfl, iteF ⟨rfl, ((s9.trans sp).trans (same_upd htq)).trans s11⟩⟩⟩⟩
          · refine ⟨_, rfl, by show 0 ≤ sizeLine; decide, fun p hp => ⟨_, _, .lst (SqL.of ((same_upd hp) _ _ (s9 _ _ g8))) (dp_intsG gd), .lst (SqL.of upd_same) .nil, ints_shaped gd, by decide +kernel, _, rfl, ifF (by rw [qe, decide_eq_false hle]; rfl) ?_⟩⟩
            exact ⟨_, _, rfl, smd_scal (.inr (.inr (.inr rfl))) 2, fun H11 s11 => ⟨_, rfl, iteF ⟨rfl, (s9.trans (same_upd hp)).trans s11⟩⟩⟩
        rintro σ H9 ⟨rfl, s9⟩
        have N9 := N8.same s9
        have T9 := Tabs.ext T8 s9
        have D9 := D8.same s9
        have e9 := s9 _ _ ea8
        have g9 := s9 _ _ g8
        clear N8 T8 D8 ea8 g8 s9
        -- no hole between them
        refine ⟨fun σ H' => ∃ wd, σ = [some (.ref a), some (.ref h), some (.int (0 + (i0 : Int))), some (.int ch), some (.ref q), some (.ref x), some (.ref g), y7, y8, y9, some (.ref wd), x11, none, none, none] ∧ Same H9 H' ∧ H' wd = some (.lst (gd.map V.int)), ?_, ?_⟩
        · refine ⟨_, rfl, by show 0 ≤ sizeLine; decide, fun p hp => ⟨_, _, .lst (SqL.of ((same_upd hp) _ _ g9)) (dp_intsG gd), .lst (SqL.of upd_same) .nil, ints_shaped gd, by decide +kernel, _, rfl, ?_⟩⟩
          have sp := same_upd (o := .lst []) hp
          have g10 := sp _ _ g9
          generalize upd H9 p (.lst []) = H10 at *
          by_cases hle : lo ≤ hi
          · refine ifT (by rw [qe, decide_eq_true hle]; rfl) ⟨_, rfl, g, _, _, _, rfl, rfl, SqL.of g10, at0' hle, _, rfl, _, rfl, g, _, _, _, rfl, rfl, SqL.of g10, atl' hle, _, _, rfl, rfl, lo, hi + 1, rfl, ⟨by omega, by omega, by omega, by omega⟩, fun W hW => ?_⟩
            have hh := lc_range (lo := lo) (n := (hi + 1 - lo).toNat) (g := gName 13) (tt := tYes) (te := tVar 13) (vs := [13]) (σ := [some (.ref a), some (.ref h), some (.int (0 + (i0 : Int))), some (.int ch), some (.ref q), some (.ref x), some (.ref g), y7, y8, y9, x10, x11, none, none, none]) (H1 := H10) (D := W) (Qd := fun Hq => Same H10 Hq ∧ Hq W = some (.lst (gd.map V.int))) (fun i H' => Same H10 H' ∧ H' W = some (.lst ((upL lo i).map V.int))) ⟨same_upd hW, upd_same⟩ (fun i H1 hi1 ⟨s1, e1⟩ => ⟨rfl, _, rfl, _, e1, by rw [List.length_map, upL_len]; exact small_lt' (by omega), same_new hW s1, by rw [upd_same, upL_more, List.map_append]; rfl⟩) (fun H1 ⟨s1, e1⟩ => ⟨s1, by rw [← hns, show (hi - lo + 1).toNat = (hi + 1 - lo).toNat by omega]; exact e1⟩)
            obtain ⟨Wf, ⟨w0, hw0⟩, hWf⟩ := hh
            refine ⟨Wf, ⟨w0, hw0⟩, fun i m Hx wx => ?_⟩
            rcases hWf i m Hx wx with ⟨q1, q2⟩ | ⟨q1, q2, q3, q4⟩
            rotate_left
            · exact .inr ⟨q1, q2, q3, q4⟩
            exact .inl ⟨q1, W, rfl, sp.trans q2.1, q2.2⟩
          · refine ifF (by rw [qe, decide_eq_false hle]; rfl) ⟨by show 0 ≤ sizeLine; decide, fun W hW => ⟨W, rfl, sp.trans (same_upd hW), ?_⟩⟩
            rw [upd_same, emp hle]
            rfl
        rintro σ H10 ⟨wd, rfl, s10, e10⟩
        have N10 := N9.same s10
        have T10 := Tabs.ext T9 s10
        have D10 := D9.same s10
        have q10 := s10 _ _ e9
        have g10 := s10 _ _ g9
        clear N9 T9 D9 e9 g9 s10
        have qs : PyData.eqv (.list (gd.map PyData.int)) (.list (gd.map PyData.int)) = true := (ints_eqv gd gd).trans (decide_eq_true rfl)
        refine ⟨fun σ H' => σ = [some (.ref a), some (.ref h), some (.int (0 + (i0 : Int))), some (.int ch), some (.ref q), some (.ref x), some (.ref g), y7, y8, y9, some (.ref wd), x11, none, none, none] ∧ H' = H10, ?_, ?_⟩
        · refine ⟨_, rfl, _, rfl, _, _, .lst (SqL.of g10) (dp_intsG gd), .lst (SqL.of e10) (dp_intsG gd), ints_shaped gd, ints_shaped gd, _, rfl, ifF (by rw [qs]; rfl) ?_⟩
          refine ⟨_, rfl, x, d6, _, rfl, D10.ex, x, l0, ch, _, rfl, D10.at_, by omega, _, rfl, q, _, rfl, .inl (SqL.of q10), rfl, _, rfl, ifF ?_ ⟨rfl, rfl⟩⟩
          have : (1 : Int) + ((xs.map lnE).length : Int) = ((((l0 :: xs).map V.str).length : Nat) : Int) := by
            rw [List.length_map, List.length_map, List.length_cons]
            omega
          rw [this, decide_eq_true rfl]
          rfl
        rintro σ H11 ⟨rfl, rfl⟩
        -- numbers that no room can have
        refine ⟨_, rfl, _, rfl, _, _, rfl, rfl, by show 2 ≤ sizeLine; decide, fun lz hlz => ⟨_, rfl, h, l, 2, rfl, N10.same (same_upd hlz), by decide, by decide, fun r2 H12 q0 q1 N12 b12 => ?_⟩⟩
        have sz := same_upd (o := .lst [.int (-1), .int (ch + 1)]) hlz
        have zh : lz ≠ h := let ⟨_, e⟩ := N10.h1; (ne_of_none e hlz).symm
        have zl : lz ≠ l := let ⟨_, e⟩ := N10.l1; (ne_of_none e hlz).symm
        obtain ⟨fr, hat, hfr⟩ : ∃ fr : Int, atI [V.int (-1), V.int (ch + 1)] r2 = some (.int fr) ∧ ¬ (0 ≤ fr ∧ fr ≤ ch) := by
          have : r2 = ((0 : Nat) : Int) ∨ r2 = ((1 : Nat) : Int) := by omega
          rcases this with z | z
          · exact ⟨_, at_of z rfl, by omega⟩
          · exact ⟨_, at_of z rfl, by omega⟩
        have T12 := tabs_but2 (Tabs.ext T10 sz) b12 (N10.same sz)
        have D12 := (D10.same sz).but2 (N10.same sz) b12
        refine ⟨lz, _, _, _, rfl, rfl, SqL.of (b12 _ _ zh zl upd_same), hat, ?_⟩
        clear N10 T10 D10 q10 g10 e10 sz hlz b12 hat
        refine ⟨T12, fun f0 G1 nf0 y1 t1 l0' => ⟨t1, fun f1 G2 nf1 y2 t2 l1' => ⟨by show 2 ≤ sizeLine; decide, fun wl hwl => ?_⟩⟩⟩
        have s15 := same_upd (o := .lst [.ref f0, .ref f1]) hwl
        have e15 := upd_same (H := G2) (a := wl) (o := .lst [.ref f0, .ref f1])
        have l0' := l0'.ext (y2.trans (extN_same s15))
        have l1' := l1'.ext (extN_same s15)
        have t3 := Tabs.ext t2 s15
        have N15 := ((N12.ext y1).ext y2).same s15
        have D15 := ((D12.ext y1).ext y2).same s15
        generalize upd G2 wl (.lst [.ref f0, .ref f1]) = H15 at *
        refine ⟨wl, rfl, ⟨_, SqL.of e15⟩, fun W hW => ?_⟩
        have fin : ∀ (i : Nat) (H' : Hp) (ys : List V), Same H15 H' → H' W = some (.lst ys) → ys.length = i → i < 2 → (∀ v ∈ ys, NumAt H' v) → ∀ (H2 : Hp), Same H' H2 → ∀ p, H2 p = some (.tup [.str "number"]) → ∃ acc, H2 W = some (.lst acc) ∧ acc.length < sizeLine ∧ Same H15 (upd H2 W (.lst (acc ++ [.ref p]))) ∧
            ∃ ys, (upd H2 W (.lst (acc ++ [.ref p]))) W = some (.lst ys) ∧ ys.length = i + 1 ∧ ∀ v ∈ ys, NumAt (upd H2 W (.lst (acc ++ [.ref p]))) v := fun i H' ys sT eD lnD i2 noD H2 s3 p hp => by
          have eD3 := s3 _ _ eD
          have up : ∀ t, H2 t = some (.tup [.str "number"]) → upd H2 W (.lst (ys ++ [.ref p])) t = some (.tup [.str "number"]) := fun t e => by
            rw [upd_ne (ne_of e eD3 fun z => nomatch z)]
            exact e
          refine ⟨ys, eD3, by rw [sizeLine_eq]; omega, same_new hW (sT.trans s3), _, upd_same, by rw [List.length_append, lnD]; rfl, fun v hv => ?_⟩
          rcases List.mem_append.mp hv with q | q
          · obtain ⟨t, rfl, e⟩ := noD v q
            exact ⟨t, rfl, up t (s3 _ _ e)⟩
          · rw [(List.mem_singleton.mp q)]
            exact ⟨p, rfl, up p hp⟩
        have told : ∀ (H' H2 : Hp) (Qo : VK), Same H' H2 → (∀ p H3, Same H2 H3 → H3 p = some (.tup [.str "number"]) → Qo (.ref p) H3) → OutA K CER e0 e1 e2 e3 e4 e5 e6 e7 e8 Qo (.ref CN) none H2 := fun H' H2 Qo _ k => ⟨CN, "number", [.str "number"], rfl, KN, (fun dd e => nomatch e), .inr (.inr (.inr ⟨by decide +kernel, by decide +kernel, by decide +kernel, rfl⟩)), k⟩
        have lkc : (dyL l0 ch le).lookup ("check" : Str) = none := lkS (by decide) (lkS (by decide) (lkS (by decide) lkN))
        have lkf : (dyL l0 ch le).lookup ("filled" : Str) = none := lkS (by decide) (lkS (by decide) (lkS (by decide) lkN))
        have hh := lc_list (K := K) (a := wl) (g := gName 14) (tt := tYes) (te := fun σB H' Q => ∃ f', σB[14]? = some (some (V.ref f')) ∧ tOutL (XL P w K mg base f c A outer s H E) 5 CER e0 e1 e2 e3 e4 e5 e6 e7 e8 [some (.ref a), some (.ref h), some (.int (0 + (i0 : Int))), some (.int ch), some (.ref q), some (.ref x), some (.ref g), y7, y8, y9, some (.ref wd), some (.int fr), none, none, none] f' H' Q) (vs := [14]) (xs := [.ref f0, .ref f1]) (σ := [some (.ref a), some (.ref h), some (.int (0 + (i0 : Int))), some (.int ch), some (.ref q), some (.ref x), some (.ref g), y7, y8, y9, some (.ref wd), some (.int fr), none, none, none]) (H1 := H15) (D := W) (Qd := fun H' => Same H15 H' ∧ ∃ ys, H' W = some (.lst ys) ∧ ys.length = 2 ∧ ∀ v ∈ ys, NumAt H' v) (fun i H' => Same H15 H' ∧ ∃ ys, H' W = some (.lst ys) ∧ ys.length = i ∧ ∀ v ∈ ys, NumAt H' v) ⟨same_upd hW, [], upd_same, rfl, fun v hv => nomatch hv⟩ (fun i H' _ ⟨sT, _⟩ => SqL.of (sT _ _ e15)) ?_ (fun _ p => p)
        rotate_left
        · rintro i y H' hi ⟨sT, ys, eD, lnD, noD⟩
          have i2 : i < 2 := (List.getElem?_eq_some_iff.mp hi).1
          have c2 : i = 0 ∨ i = 1 := by omega
          rcases c2 with rfl | rfl
          · cases hi
            refine ⟨rfl, _, rfl, _, _, _, _, _, l0'.ext (extN_same sT), lamN_by (N := nLaw) (sc := defScope sLaw) (by decide +kernel), .inl ⟨rfl, fun _ _ _ _ _ => rfl⟩, fun _ _ _ _ _ _ => rfl, fun A' outer' s' H3 c' hr' => by exact pe_methR (pv 5) D.cl MC GCX (hr'.mono (by decide)) (passes_call (takes_of rfl rfl rfl rfl) fun _ _ _ _ h => h) (pa_cons (pv 11) pa_nil), ?_⟩
            exact ⟨_, rfl, x, d6, _, rfl, (D15.same sT).ex, lkc, _, rfl, x, l0, ch, fr, _, rfl, (D15.same sT).at_, c0, by omega, by omega, ec, fun z0 z1 => absurd ⟨z0, z1⟩ hfr, fun _ H2 s2 => told H' H2 _ s2 fun p H3 s3 e3 => fin 0 H' ys sT eD lnD i2 noD H3 (s2.trans s3) p e3⟩
          · cases hi
            refine ⟨rfl, _, rfl, _, _, _, _, _, l1'.ext (extN_same sT), lamN_by (N := nLaw) (sc := defScope sLaw) (by decide +kernel), .inr ⟨"_law_a", rfl, fun _ _ _ _ _ _ _ => ⟨_, rfl, rfl⟩⟩, (fun z => nomatch z), fun A' outer' s' H3 c' hr' => by exact pe_methR (pv 5) D.cl ML GLX (hr'.mono (by decide)) (passes_call (takes_of rfl rfl rfl rfl) fun _ _ _ _ h => h) (pa_cons (pv 11) pa_nil), ?_⟩
            exact ⟨_, rfl, x, d6, _, rfl, (D15.same sT).ex, lkf, _, rfl, x, l0, ch, fr, _, rfl, (D15.same sT).at_, c0, by omega, by omega, by omega, ec2, fun z0 z1 => absurd ⟨z0, z1⟩ hfr, fun _ H2 s2 => told H' H2 _ s2 fun p H3 s3 e3 => fin 1 H' ys sT eD lnD i2 noD H3 (s2.trans s3) p e3⟩
        obtain ⟨Wf, ⟨w0, hw0⟩, hWf⟩ := hh
        refine ⟨Wf, ⟨w0, hw0⟩, fun i m Hx wx => ?_⟩
        rcases hWf i m Hx wx with ⟨q1, q2⟩ | ⟨q1, q2, q3, q4⟩
        rotate_left
        · exact .inr ⟨q1, q2, q3, q4⟩
        refine .inl ⟨q1, ?_⟩
        obtain ⟨sT, ys, eD, lnD, noD⟩ := q2
        refine ⟨by show 1 ≤ sizeLine; decide, fun t ht => ⟨by show 1 ≤ sizeLine; decide, fun lq hlq => ⟨lq, 2, _, rfl, rfl, upd_same, by decide, by decide, by rw [sizeLine_eq]; show 1 * 2 ≤ 16777216; decide, fun qq hqq => ?_⟩⟩⟩
        have s30 := ((same_upd (o := .tup [.str "number"]) ht).trans (same_upd (o := .lst [.ref t]) hlq)).trans (same_upd (o := .lst (List.replicate (2 : Int).toNat [V.ref t]).flatten) hqq)
        have et := ((same_upd (o := .lst [.ref t]) hlq).trans (same_upd (o := .lst (List.replicate (2 : Int).toNat [V.ref t]).flatten) hqq)) _ _ (upd_same : upd Hx t (.tup [.str "number"]) t = some (.tup [.str "number"]))
        have gq : (upd (upd (upd Hx t (.tup [.str "number"])) lq (.lst [.ref t])) qq (.lst (List.replicate (2 : Int).toNat [V.ref t]).flatten)) qq = some (.lst [.ref t, .ref t]) := upd_same
        generalize upd (upd (upd Hx t (.tup [.str "number"])) lq (.lst [.ref t])) qq (.lst (List.replicate (2 : Int).toNat [V.ref t]).flatten) = H30 at *
        have d1 : DpAll K H30 ys (List.replicate 2 (PyData.tuple [.str "number"])) := by
          have z := dp_num (K := K) (H := H30) (vs := ys) fun v hv => let ⟨t, e1, e2⟩ := noD v hv; ⟨t, e1, s30 _ _ e2⟩
          rw [lnD] at z
          exact z
        have d2 : DpAll K H30 [.ref t, .ref t] (List.replicate 2 (PyData.tuple [.str "number"])) := dp_num (vs := [.ref t, .ref t]) fun v hv => by
          have : v = .ref t := by simpa using hv
          exact ⟨t, this, et⟩
        refine ⟨.list (List.replicate 2 (.tuple [.str "number"])), .list (List.replicate 2 (.tuple [.str "number"])), .lst (SqL.of (s30 _ _ eD)) d1, .lst (SqL.of gq) d2, by decide +kernel, by decide +kernel, _, rfl, ifF (by decide +kernel) ?_⟩
        exact ⟨_, _, _, _, _, _, _, _, _, _, rfl, N15.same (sT.trans s30), Tabs.ext t3 (sT.trans s30)⟩
    · rintro σ H2 ⟨x2, x3, x4, x5, x6, x7, x8, x9, x10, x11, rfl, N2, T2⟩
      refine ⟨_, _, rfl, rfl, ⟨by decide, by decide, by decide⟩, _, rfl, _, _, rfl, rfl, ⟨by decide, by decide, by decide⟩, h, l, _, rfl, N2, by decide, by decide, fun m H3 m0 m1 N3 b3 => ⟨_, _, rfl, rfl, ?_⟩⟩
      have p18 : (10 : Int) ^ (18 : Int).toNat = 1000000000000000000 := by decide
      have p6 : (10 : Int) ^ (6 : Int).toNat = 1000000 := by decide
      rw [p6] at m1
      dsimp only
      rw [p18]
      obtain ⟨n, en⟩ : ∃ n : Nat, (1000000000000000000 : Int) - m = (n : Int) := ⟨(1000000000000000000 - m).toNat, by omega⟩
      rw [en]
      have n1 : n ≤ 1000000000000000000 := by omega
      have n0 : 1000 ≤ n := by omega
      clear en
      have nl19 : (Str.ofString (toString ((n : Nat) : Int))).length ≤ 19 := nS_len19 n1
      have hl7 : (Str.ofString "chairs ").length = 7 := by decide +kernel
      have sz := sizeLine_eq
      obtain ⟨hd1, hd2⟩ := head_row n (by omega)
      have l0ok : okS (Str.ofString "chairs " ++ nS n) := okS_app (okS_of (by decide +kernel)) (nS_ok _)
      have l0len : (Str.ofString "chairs " ++ nS n).length ≤ 26 := by
        have := app_len (Str.ofString "chairs ") (nS n)
        have := nS_len19 n1
        omega
      have lgs : ((n : Nat) : Int).natAbs.log2 < 1920 := PySem.EiX.log_small (by omega) (by omega)
      have fl1 := far_lines n
      have fl2 := wide_lines n
      have ok1 : okS (Str.ofString "chairs " ++ nS n ++ Str.ofString "\nred 5 carried ?\nblue 7 carried 3\nturn\nblue has ?") := okS_app l0ok (okS_of (by decide +kernel))
      have ok2 : okS (Str.ofString "chairs " ++ nS n ++ Str.ofString "\nred 5 carried 0\nturn\nred 7 carried 0\nblue has ?") := okS_app l0ok (okS_of (by decide +kernel))
      have k1 : (Str.ofString "\nred 5 carried ?\nblue 7 carried 3\nturn\nblue has ?").length ≤ 60 := by decide +kernel
      have k2 : (Str.ofString "\nred 5 carried 0\nturn\nred 7 carried 0\nblue has ?").length ≤ 60 := by decide +kernel
      have t1 : (Str.ofString "chairs " ++ nS n ++ Str.ofString "\nred 5 carried ?\nblue 7 carried 3\nturn\nblue has ?").length ≤ 90 := by
        rw [app_len]
        omega
      have t2 : (Str.ofString "chairs " ++ nS n ++ Str.ofString "\nred 5 carried 0\nturn\nred 7 carried 0\nblue has ?").length ≤ 90 := by
        rw [app_len]
        omega
      have ec1 : ∀ e ∈ farX.map lnE, EntC (n : Int) e := fun e he => by
        obtain ⟨x, hx, rfl⟩ := List.mem_map.mp he
        exact row_ent (row_mono (far_rows x hx).2.2.2 (by omega))
      have ec2 : ∀ e ∈ wideX.map lnE, EntC (n : Int) e := fun e he => by
        obtain ⟨x, hx, rfl⟩ := List.mem_map.mp he
        exact row_ent (row_mono (wide_rows x hx).2.2.2 (by omega))
      have ff1 : (fitL (n : Int) (farX.map lnE)).1 = ((n : Int) - 4, (n : Int) - 4) := by
        rw [e_far] at ec1 ⊢
        exact far_fit (by omega) ec1
      have ff2 : (fitL (n : Int) (wideX.map lnE)).1 = (5, (n : Int) - 7) := by
        rw [e_wide] at ec2 ⊢
        exact wide_fit (by omega) ec2
      have ck1 : checkF (n : Int) 1 (farX.map lnE) ((n : Int) - 4) = none := by
        rw [check_ok, e_far, far_ok (by omega) (by omega) (by omega)]
        exact decide_eq_true rfl
      have lk1 : ∀ le, (dyL (Str.ofString "chairs " ++ nS n) (n : Int) le).lookup ("check" : Str) = none := fun _ => lkS (by decide) (lkS (by decide) (lkS (by decide) lkN))
      have lk2 : ∀ le, (dyL (Str.ofString "chairs " ++ nS n) (n : Int) le).lookup ("fitting_starts" : Str) = none := fun _ => lkS (by decide) (lkS (by decide) (lkS (by decide) lkN))
      have al := app_len (Str.ofString "chairs ") (nS n)
      refine ⟨_, rfl, _, rfl, lgs, _, _, rfl, rfl, by omega, _, _, rfl, rfl, far_sz l0len k1, fun x dx hx hdx _ => ?_⟩
      refine made_day (h := h) (l := l) (xs := farX) (c := (n : Int)) N3 ok1 (Nat.le_trans t1 (by decide)) fl1 hd1 (fun y hy => row_mono (far_rows y hy).2.2.2 (by omega)) (by decide) (fun y hy => Nat.le_trans (short_lines t1 y hy) (by decide)) hx hdx fun H4 d4 le vs s4 D4 => ?_
      have N4 := N3.same s4
      clear hx hdx N2 T2 N3 b3 s4
      obtain ⟨z1, z2⟩ := two_eqv ((n : Int) - 4) ((n : Int) - 4)
      refine ⟨_, rfl, x, d4, _, rfl, D4.ex, lk2 _, x, _, (n : Int), _, rfl, D4.at_, by decide, ?_⟩
      unfold FitOut
      rw [ff1]
      refine ⟨fun _ q2 H5 s5 e5' => ?_, fun hle H9 s9 => absurd (Int.le_refl _) hle⟩
      have D5 := D4.same s5
      refine ⟨_, rfl, _, _, rfl, rfl, _, rfl, _, _, rfl, rfl, by show 2 ≤ sizeLine; decide, fun tq htq => ⟨.tuple [.int ((n : Int) - 4), .int ((n : Int) - 4)], .tuple [.int ((n : Int) - 4), .int ((n : Int) - 4)], .tup (SqT.of ((same_upd htq) _ _ e5')) (.cons (.int _) (.cons (.int _) .nil)), .tup (SqT.of upd_same) (.cons (.int _) (.cons (.int _) .nil)), z1, z1, _, rfl, ifF (by rw [z2]; rfl) ?_⟩⟩
      have sq := same_upd (o := .tup [.int ((n : Int) - 4), .int ((n : Int) - 4)]) htq
      have D6 := D5.same sq
      have N6 := (N4.same s5).same sq
      generalize upd H5 tq (.tup [.int ((n : Int) - 4), .int ((n : Int) - 4)]) = H6 at *
      refine ⟨_, rfl, x, d4, _, rfl, D6.ex, lk1 _, _, rfl, _, _, rfl, rfl, x, _, (n : Int), (n : Int) - 4, _, rfl, D6.at_, by omega, by omega, by decide, ec1, fun _ _ H7 s7 => ?_, fun nok => absurd ⟨by omega, by omega⟩ nok⟩
      rw [ck1]
      have D7 := D6.same s7
      refine ⟨rfl, _, rfl, ifF rfl ⟨_, rfl, x, d4, _, rfl, D7.ex, x, _, (n : Int), _, rfl, D7.at_, by decide, rfl, _, rfl, ifF (by decide +kernel) ?_⟩⟩
      have N7 := N6.same s7
      clear D4 D5 D6 N4 s5 e5' htq sq s7
      refine ⟨_, rfl, _, rfl, lgs, _, _, rfl, rfl, by omega, _, _, rfl, rfl, far_sz l0len k2, fun x dx hx hdx _ => ?_⟩
      refine made_day (h := h) (l := l) (xs := wideX) (c := (n : Int)) N7 ok2 (Nat.le_trans t2 (by decide)) fl2 hd1 (fun y hy => row_mono (wide_rows y hy).2.2.2 (by omega)) (by decide) (fun y hy => Nat.le_trans (short_lines t2 y hy) (by decide)) hx hdx fun H8 d8 le vs s8 D8 => ?_
      obtain ⟨z3, z4⟩ := two_eqv 5 ((n : Int) - 7)
      refine ⟨_, rfl, x, d8, _, rfl, D8.ex, lk2 _, x, _, (n : Int), _, rfl, D8.at_, by decide, ?_⟩
      unfold FitOut
      rw [ff2]
      refine ⟨fun _ q2 H9 s9 e9 => ?_, fun hle H9 s9 => absurd (by show (5 : Int) ≤ (n : Int) - 7; omega) hle⟩
      refine ⟨_, rfl, _, _, rfl, rfl, by show 2 ≤ sizeLine; decide, fun tq htq => ⟨.tuple [.int 5, .int ((n : Int) - 7)], .tuple [.int 5, .int ((n : Int) - 7)], .tup (SqT.of ((same_upd htq) _ _ e9)) (.cons (.int _) (.cons (.int _) .nil)), .tup (SqT.of upd_same) (.cons (.int _) (.cons (.int _) .nil)), z3, z3, ?_⟩⟩
      rw [z4]
      exact k _
end
end Cc

namespace Cc
open PySem PySem.Spec PyProof.Rows L2
open LamX
theorem dn_mk {P : Program} {w : World} {K : PySem.W.Frag} {mg : Str → Option Value} {base : Heap} {k : Nat} {x : Str} {f : Addr} {fd : FuncData} {ps : List Str} {sp : Sp} (a : mg x = some (.ref f)) (kp : PySem.W.keepIn K (.ref f) = true) (F : FnOk P w K mg base CX0 k f fd ps sp) (b : Binds K fd ps []) :
    Dn P w K mg base k x f sp := ⟨a, kp, (F.raw b .nil).imp fun vs H Q E h => by rw [List.append_nil]; exact h⟩
theorem dnx_mk {P : Program} {w : World} {K : PySem.W.Frag} {mg : Str → Option Value} {base : Heap} {k : Nat} {x : Str} {f : Addr} {fd : FuncData} {ps : List Str} {sp : Sp} (a : mg x = some (.ref f)) (kp : PySem.W.keepIn K (.ref f) = true) (F : FnOk P w K mg base (L2.CX P w) k f fd ps sp) (b : Binds K fd ps []) :
    DnX P w K mg base k x f sp := ⟨a, kp, (F.raw b .nil).imp fun vs H Q E h => by rw [List.append_nil]; exact h⟩
theorem all_mk {P : Program} {w : World} {K : PySem.W.Frag} {h : Heap} {mg : Str → Option Value} {fa C TU pS f_is_whole f_is_number f_check_number f_is_step f_integer_in f_allowed_range f_narrowed f_nearest f_effect_of f_numbers_that_carry f_starts_that_lead f_starts_that_carry f_starts_that_leave f_entry_in f_starts_that_fit f_after_step f__law_mix f__law_next f__law_step f__law_rows f__law_right f__law_alike f_law cL PT f__law_outcome f_chairs_in fminit fmjoined EInvalidNumber EDaybookError BDaybookError fIDaybookError ccDaybookError cdaDaybookError NDaybookError fmst : Addr} (X : K.In h) (G : h.Ns mainGlobals mg) (hfa : mg "law" = some (.ref fa))
    {od_is_whole an_is_whole od_is_number an_is_number od_check_number an_check_number od_is_step an_is_step od_integer_in an_integer_in od_allowed_range an_allowed_range od_narrowed an_narrowed od_nearest an_nearest od_effect_of an_effect_of od_numbers_that_carry an_numbers_that_carry od_starts_that_lead an_starts_that_lead od_starts_that_carry an_starts_that_carry od_starts_that_leave an_starts_that_leave od_entry_in an_entry_in od_starts_that_fit an_starts_that_fit od_after_step an_after_step od__law_mix an__law_mix od__law_next an__law_next od__law_step an__law_step od__law_rows an__law_rows od__law_right an__law_right od__law_alike an__law_alike od_law an_law dC od__law_outcome an__law_outcome od_chairs_in an_chairs_in odminit anminit odmjoined anmjoined odDaybookError anDaybookError cldDaybookError cddDaybookError ddDaybookError odmst anmst dT : Option Addr} {sl_is_whole sl_is_number sl_check_number sl_is_step sl_integer_in sl_allowed_range sl_narrowed sl_nearest sl_effect_of sl_numbers_that_carry sl_starts_that_lead sl_starts_that_carry sl_starts_that_leave sl_entry_in sl_starts_that_fit sl_after_step sl__law_mix sl__law_next sl__law_step sl__law_rows sl__law_right sl__law_alike sl_law slC sl__law_outcome sl_chairs_in slminit slmjoined slDaybookError cslDaybookError ccsDaybookError slmst slT : Array (Option Value)} {oc_is_whole kV_is_whole dc_is_whole pm_is_whole cd_is_whole ct_is_whole oc_is_number kV_is_number dc_is_number pm_is_number cd_is_number ct_is_number oc_check_number kV_check_number dc_check_number pm_check_number cd_check_number ct_check_number oc_is_step kV_is_step dc_is_step pm_is_step cd_is_step ct_is_step oc_integer_in kV_integer_in dc_integer_in pm_integer_in cd_integer_in ct_integer_in oc_allowed_range kV_allowed_range dc_allowed_range pm_allowed_range cd_allowed_range ct_allowed_range oc_narrowed kV_narrowed dc_narrowed pm_narrowed cd_narrowed ct_narrowed oc_nearest kV_nearest dc_nearest pm_nearest cd_nearest ct_nearest oc_effect_of kV_effect_of dc_effect_of pm_effect_of cd_effect_of ct_effect_of oc_numbers_that_carry kV_numbers_that_carry dc_numbers_that_carry pm_numbers_that_carry cd_numbers_that_carry ct_numbers_that_carry oc_starts_that_lead kV_starts_that_lead dc_starts_that_lead pm_starts_that_lead cd_starts_that_lead ct_starts_that_lead oc_starts_that_carry kV_starts_that_carry dc_starts_that_carry pm_starts_that_carry cd_starts_that_carry ct_starts_that_carry oc_starts_that_leave kV_starts_that_leave dc_starts_that_leave pm_starts_that_leave cd_starts_that_leave ct_starts_that_leave oc_entry_in kV_entry_in dc_entry_in pm_entry_in cd_entry_in ct_entry_in oc_starts_that_fit kV_starts_that_fit dc_starts_that_fit pm_starts_that_fit cd_starts_that_fit ct_starts_that_fit oc_after_step kV_after_step dc_after_step pm_after_step cd_after_step ct_after_step oc__law_mix kV__law_mix dc__law_mix pm__law_mix cd__law_mix ct__law_mix oc__law_next kV__law_next dc__law_next pm__law_next cd__law_next ct__law_next oc__law_step kV__law_step dc__law_step pm__law_step cd__law_step ct__law_step oc__law_rows kV__law_rows dc__law_rows pm__law_rows cd__law_rows ct__law_rows oc__law_right kV__law_right dc__law_right pm__law_right cd__law_right ct__law_right oc__law_alike kV__law_alike dc__law_alike pm__law_alike cd__law_alike ct__law_alike oc_law kV_law dc_law pm_law ct_law oC oc__law_outcome kV__law_outcome dc__law_outcome pm__law_outcome cd__law_outcome ct__law_outcome oc_chairs_in kV_chairs_in dc_chairs_in pm_chairs_in cd_chairs_in ct_chairs_in ocminit kVminit dcminit pmminit cdminit ctminit ocmjoined kVmjoined dcmjoined pmmjoined cdmjoined ctmjoined ocDaybookError kVDaybookError dcDaybookError pmDaybookError ctDaybookError clDaybookError cclDaybookError ocmst kVmst dcmst pmmst cdmst ctmst : Value} {rs : List Value} {t1 t2 t3 t4 t_DIGITS t_UNKNOWN t_MAX_ROWS : Tok} {nT : Nat} {vC  : Array Value} {nmDaybookError qDaybookError t1DaybookError t2DaybookError fileDaybookError : Str} {bsDaybookError subDaybookError : List Value} {snDaybookError : List Str} {abDaybookError : Bool} {colDaybookError : Option Bool} {m0DaybookError m1DaybookError m2DaybookError m3DaybookError m5DaybookError : Option Value} {vsDaybookError : Array Value} {tkDaybookError : Tok} {p1DaybookError p2DaybookError a1DaybookError a2DaybookError a3DaybookError a4DaybookError a5DaybookError a6DaybookError a7DaybookError a8DaybookError a9DaybookError a10DaybookError b1DaybookError b2DaybookError b3DaybookError b4DaybookError : Pos} {CN fei CD fdi fft frn fck ffi frc Prc e9DecodeError e9InvalidBooking e9InvalidOperation e9InvalidPlan e9InvalidText e9NotEnough e9TooFewChairs CE : Addr} {odei anei oddi andi odft anft odrn anrn odck anck odfi anfi odrc anrc : Option Addr} {slei sldi slft slrn slck slfi slrc : Array (Option Value)} {ocei kVei dcei pmei cdei ctei ocdi kVdi dcdi pmdi cddi ctdi ocft kVft dcft pmft cdft ctft ocrn kVrn dcrn pmrn cdrn ctrn occk kVck dcck pmck cdck ctck ocfi kVfi dcfi pmfi cdfi ctfi ocrc kVrc dcrc pmrc cdrc ctrc : Value} {rsrc : List Value}
    (a_is_whole : PySem.W.nsIn K mainGlobals "is_whole" = some (some (.ref f_is_whole)))
    (l_is_whole : K.lookup f_is_whole = some ⟨oc_is_whole, od_is_whole, .func (PySem.W.fnOf "is_whole" "is_whole" (defArgs sIsWhole) (defBody sIsWhole) (defScope sIsWhole) .none kV_is_whole dc_is_whole pm_is_whole an_is_whole cd_is_whole ct_is_whole), sl_is_whole⟩)
    (c_is_whole : PySem.W.codeIn K cd_is_whole "is_whole" = true)
    (k_is_whole : PySem.W.keepIn K (.ref f_is_whole) = true)
    (a_is_number : PySem.W.nsIn K mainGlobals "is_number" = some (some (.ref f_is_number)))
    (l_is_number : K.lookup f_is_number = some ⟨oc_is_number, od_is_number, .func (PySem.W.fnOf "is_number" "is_number" (defArgs sIsNum) (defBody sIsNum) (defScope sIsNum) .none kV_is_number dc_is_number pm_is_number an_is_number cd_is_number ct_is_number), sl_is_number⟩)
    (c_is_number : PySem.W.codeIn K cd_is_number "is_number" = true)
    (k_is_number : PySem.W.keepIn K (.ref f_is_number) = true)
    (a_check_number : PySem.W.nsIn K mainGlobals "check_number" = some (some (.ref f_check_number)))
    (l_check_number : K.lookup f_check_number = some ⟨oc_check_number, od_check_number, .func (PySem.W.fnOf "check_number" "check_number" (defArgs sChkNum) (defBody sChkNum) (defScope sChkNum) .none kV_check_number dc_check_number pm_check_number an_check_number cd_check_number ct_check_number), sl_check_number⟩)
    (c_check_number : PySem.W.codeIn K cd_check_number "check_number" = true)
    (k_check_number : PySem.W.keepIn K (.ref f_check_number) = true)
    (a_is_step : PySem.W.nsIn K mainGlobals "is_step" = some (some (.ref f_is_step)))
    (l_is_step : K.lookup f_is_step = some ⟨oc_is_step, od_is_step, .func (PySem.W.fnOf "is_step" "is_step" (defArgs sIsStep) (defBody sIsStep) (defScope sIsStep) .none kV_is_step dc_is_step pm_is_step an_is_step cd_is_step ct_is_step), sl_is_step⟩)
    (c_is_step : PySem.W.codeIn K cd_is_step "is_step" = true)
    (k_is_step : PySem.W.keepIn K (.ref f_is_step) = true)
    (a_integer_in : PySem.W.nsIn K mainGlobals "integer_in" = some (some (.ref f_integer_in)))
    (l_integer_in : K.lookup f_integer_in = some ⟨oc_integer_in, od_integer_in, .func (PySem.W.fnOf "integer_in" "integer_in" (defArgs s_integer_in) (defBody s_integer_in) (defScope s_integer_in) .none kV_integer_in dc_integer_in pm_integer_in an_integer_in cd_integer_in ct_integer_in), sl_integer_in⟩)
    (c_integer_in : PySem.W.codeIn K cd_integer_in "integer_in" = true)
    (k_integer_in : PySem.W.keepIn K (.ref f_integer_in) = true)
    (a_allowed_range : PySem.W.nsIn K mainGlobals "allowed_range" = some (some (.ref f_allowed_range)))
    (l_allowed_range : K.lookup f_allowed_range = some ⟨oc_allowed_range, od_allowed_range, .func (PySem.W.fnOf "allowed_range" "allowed_range" (defArgs sAllow) (defBody sAllow) (defScope sAllow) .none kV_allowed_range dc_allowed_range pm_allowed_range an_allowed_range cd_allowed_range ct_allowed_range), sl_allowed_range⟩)
    (c_allowed_range : PySem.W.codeIn K cd_allowed_range "allowed_range" = true)
    (k_allowed_range : PySem.W.keepIn K (.ref f_allowed_range) = true)
    (a_narrowed : PySem.W.nsIn K mainGlobals "narrowed" = some (some (.ref f_narrowed)))
    (l_narrowed : K.lookup f_narrowed = some ⟨oc_narrowed, od_narrowed, .func (PySem.W.fnOf "narrowed" "narrowed" (defArgs sNarrow) (defBody sNarrow) (defScope sNarrow) .none kV_narrowed dc_narrowed pm_narrowed an_narrowed cd_narrowed ct_narrowed), sl_narrowed⟩)
    (c_narrowed : PySem.W.codeIn K cd_narrowed "narrowed" = true)
    (k_narrowed : PySem.W.keepIn K (.ref f_narrowed) = true)
    (a_nearest : PySem.W.nsIn K mainGlobals "nearest" = some (some (.ref f_nearest)))
    (l_nearest : K.lookup f_nearest = some ⟨oc_nearest, od_nearest, .func (PySem.W.fnOf "nearest" "nearest" (defArgs sNear) (defBody sNear) (defScope sNear) .none kV_nearest dc_nearest pm_nearest an_nearest cd_nearest ct_nearest), sl_nearest⟩)
    (c_nearest : PySem.W.codeIn K cd_nearest "nearest" = true)
    (k_nearest : PySem.W.keepIn K (.ref f_nearest) = true)
    (a_effect_of : PySem.W.nsIn K mainGlobals "effect_of" = some (some (.ref f_effect_of)))
    (l_effect_of : K.lookup f_effect_of = some ⟨oc_effect_of, od_effect_of, .func (PySem.W.fnOf "effect_of" "effect_of" (defArgs sEffect) (defBody sEffect) (defScope sEffect) .none kV_effect_of dc_effect_of pm_effect_of an_effect_of cd_effect_of ct_effect_of), sl_effect_of⟩)
    (c_effect_of : PySem.W.codeIn K cd_effect_of "effect_of" = true)
    (k_effect_of : PySem.W.keepIn K (.ref f_effect_of) = true)
    (a_numbers_that_carry : PySem.W.nsIn K mainGlobals "numbers_that_carry" = some (some (.ref f_numbers_that_carry)))
    (l_numbers_that_carry : K.lookup f_numbers_that_carry = some ⟨oc_numbers_that_carry, od_numbers_that_carry, .func (PySem.W.fnOf "numbers_that_carry" "numbers_that_carry" (defArgs s_numbers_that_carry) (defBody s_numbers_that_carry) (defScope s_numbers_that_carry) .none kV_numbers_that_carry dc_numbers_that_carry pm_numbers_that_carry an_numbers_that_carry cd_numbers_that_carry ct_numbers_that_carry), sl_numbers_that_carry⟩)
    (c_numbers_that_carry : PySem.W.codeIn K cd_numbers_that_carry "numbers_that_carry" = true)
    (k_numbers_that_carry : PySem.W.keepIn K (.ref f_numbers_that_carry) = true)
    (a_starts_that_lead : PySem.W.nsIn K mainGlobals "starts_that_lead" = some (some (.ref f_starts_that_lead)))
    (l_starts_that_lead : K.lookup f_starts_that_lead = some ⟨oc_starts_that_lead, od_starts_that_lead, .func (PySem.W.fnOf "starts_that_lead" "starts_that_lead" (defArgs s_starts_that_lead) (defBody s_starts_that_lead) (defScope s_starts_that_lead) .none kV_starts_that_lead dc_starts_that_lead pm_starts_that_lead an_starts_that_lead cd_starts_that_lead ct_starts_that_lead), sl_starts_that_lead⟩)
    (c_starts_that_lead : PySem.W.codeIn K cd_starts_that_lead "starts_that_lead" = true)
    (k_starts_that_lead : PySem.W.keepIn K (.ref f_starts_that_lead) = true)
    (a_starts_that_carry : PySem.W.nsIn K mainGlobals "starts_that_carry" = some (some (.ref f_starts_that_carry)))
    (l_starts_that_carry : K.lookup f_starts_that_carry = some ⟨oc_starts_that_carry, od_starts_that_carry, .func (PySem.W.fnOf "starts_that_carry" "starts_that_carry" (defArgs s_starts_that_carry) (defBody s_starts_that_carry) (defScope s_starts_that_carry) .none kV_starts_that_carry dc_starts_that_carry pm_starts_that_carry an_starts_that_carry cd_starts_that_carry ct_starts_that_carry), sl_starts_that_carry⟩)
    (c_starts_that_carry : PySem.W.codeIn K cd_starts_that_carry "starts_that_carry" = true)
    (k_starts_that_carry : PySem.W.keepIn K (.ref f_starts_that_carry) = true)
    (a_starts_that_leave : PySem.W.nsIn K mainGlobals "starts_that_leave" = some (some (.ref f_starts_that_leave)))
    (l_starts_that_leave : K.lookup f_starts_that_leave = some ⟨oc_starts_that_leave, od_starts_that_leave, .func (PySem.W.fnOf "starts_that_leave" "starts_that_leave" (defArgs s_starts_that_leave) (defBody s_starts_that_leave) (defScope s_starts_that_leave) .none kV_starts_that_leave dc_starts_that_leave pm_starts_that_leave an_starts_that_leave cd_starts_that_leave ct_starts_that_leave), sl_starts_that_leave⟩)
    (c_starts_that_leave : PySem.W.codeIn K cd_starts_that_leave "starts_that_leave" = true)
    (k_starts_that_leave : PySem.W.keepIn K (.ref f_starts_that_leave) = true)
    (a_entry_in : PySem.W.nsIn K mainGlobals "entry_in" = some (some (.ref f_entry_in)))
    (l_entry_in : K.lookup f_entry_in = some ⟨oc_entry_in, od_entry_in, .func (PySem.W.fnOf "entry_in" "entry_in" (defArgs s_entry_in) (defBody s_entry_in) (defScope s_entry_in) .none kV_entry_in dc_entry_in pm_entry_in an_entry_in cd_entry_in ct_entry_in), sl_entry_in⟩)
    (c_entry_in : PySem.W.codeIn K cd_entry_in "entry_in" = true)
    (k_entry_in : PySem.W.keepIn K (.ref f_entry_in) = true)
    (a_starts_that_fit : PySem.W.nsIn K mainGlobals "starts_that_fit" = some (some (.ref f_starts_that_fit)))
    (l_starts_that_fit : K.lookup f_starts_that_fit = some ⟨oc_starts_that_fit, od_starts_that_fit, .func (PySem.W.fnOf "starts_that_fit" "starts_that_fit" (defArgs s_starts_that_fit) (defBody s_starts_that_fit) (defScope s_starts_that_fit) .none kV_starts_that_fit dc_starts_that_fit pm_starts_that_fit an_starts_that_fit cd_starts_that_fit ct_starts_that_fit), sl_starts_that_fit⟩)
    (c_starts_that_fit : PySem.W.codeIn K cd_starts_that_fit "starts_that_fit" = true)
    (k_starts_that_fit : PySem.W.keepIn K (.ref f_starts_that_fit) = true)
    (a_after_step : PySem.W.nsIn K mainGlobals "after_step" = some (some (.ref f_after_step)))
    (l_after_step : K.lookup f_after_step = some ⟨oc_after_step, od_after_step, .func (PySem.W.fnOf "after_step" "after_step" (defArgs s_after_step) (defBody s_after_step) (defScope s_after_step) .none kV_after_step dc_after_step pm_after_step an_after_step cd_after_step ct_after_step), sl_after_step⟩)
    (c_after_step : PySem.W.codeIn K cd_after_step "after_step" = true)
    (k_after_step : PySem.W.keepIn K (.ref f_after_step) = true)
    (a__law_mix : PySem.W.nsIn K mainGlobals "_law_mix" = some (some (.ref f__law_mix)))
    (l__law_mix : K.lookup f__law_mix = some ⟨oc__law_mix, od__law_mix, .func (PySem.W.fnOf "_law_mix" "_law_mix" (defArgs s__law_mix) (defBody s__law_mix) (defScope s__law_mix) .none kV__law_mix dc__law_mix pm__law_mix an__law_mix cd__law_mix ct__law_mix), sl__law_mix⟩)
    (c__law_mix : PySem.W.codeIn K cd__law_mix "_law_mix" = true)
    (k__law_mix : PySem.W.keepIn K (.ref f__law_mix) = true)
    (a__law_next : PySem.W.nsIn K mainGlobals "_law_next" = some (some (.ref f__law_next)))
    (l__law_next : K.lookup f__law_next = some ⟨oc__law_next, od__law_next, .func (PySem.W.fnOf "_law_next" "_law_next" (defArgs s__law_next) (defBody s__law_next) (defScope s__law_next) .none kV__law_next dc__law_next pm__law_next an__law_next cd__law_next ct__law_next), sl__law_next⟩)
    (c__law_next : PySem.W.codeIn K cd__law_next "_law_next" = true)
    (k__law_next : PySem.W.keepIn K (.ref f__law_next) = true)
    (a__law_step : PySem.W.nsIn K mainGlobals "_law_step" = some (some (.ref f__law_step)))
    (l__law_step : K.lookup f__law_step = some ⟨oc__law_step, od__law_step, .func (PySem.W.fnOf "_law_step" "_law_step" (defArgs s__law_step) (defBody s__law_step) (defScope s__law_step) .none kV__law_step dc__law_step pm__law_step an__law_step cd__law_step ct__law_step), sl__law_step⟩)
    (c__law_step : PySem.W.codeIn K cd__law_step "_law_step" = true)
    (k__law_step : PySem.W.keepIn K (.ref f__law_step) = true)
    (a__law_rows : PySem.W.nsIn K mainGlobals "_law_rows" = some (some (.ref f__law_rows)))
    (l__law_rows : K.lookup f__law_rows = some ⟨oc__law_rows, od__law_rows, .func (PySem.W.fnOf "_law_rows" "_law_rows" (defArgs s__law_rows) (defBody s__law_rows) (defScope s__law_rows) .none kV__law_rows dc__law_rows pm__law_rows an__law_rows cd__law_rows ct__law_rows), sl__law_rows⟩)
    (c__law_rows : PySem.W.codeIn K cd__law_rows "_law_rows" = true)
    (k__law_rows : PySem.W.keepIn K (.ref f__law_rows) = true)
    (a__law_right : PySem.W.nsIn K mainGlobals "_law_right" = some (some (.ref f__law_right)))
    (l__law_right : K.lookup f__law_right = some ⟨oc__law_right, od__law_right, .func (PySem.W.fnOf "_law_right" "_law_right" (defArgs s__law_right) (defBody s__law_right) (defScope s__law_right) .none kV__law_right dc__law_right pm__law_right an__law_right cd__law_right ct__law_right), sl__law_right⟩)
    (c__law_right : PySem.W.codeIn K cd__law_right "_law_right" = true)
    (k__law_right : PySem.W.keepIn K (.ref f__law_right) = true)
    (a__law_alike : PySem.W.nsIn K mainGlobals "_law_alike" = some (some (.ref f__law_alike)))
    (l__law_alike : K.lookup f__law_alike = some ⟨oc__law_alike, od__law_alike, .func (PySem.W.fnOf "_law_alike" "_law_alike" (defArgs sAlike) (defBody sAlike) (defScope sAlike) .none kV__law_alike dc__law_alike pm__law_alike an__law_alike cd__law_alike ct__law_alike), sl__law_alike⟩)
    (c__law_alike : PySem.W.codeIn K cd__law_alike "_law_alike" = true)
    (k__law_alike : PySem.W.keepIn K (.ref f__law_alike) = true)
    (a_law : PySem.W.nsIn K mainGlobals "law" = some (some (.ref f_law)))
    (l_law : K.lookup f_law = some ⟨oc_law, od_law, .func (PySem.W.fnOf "law" "law" (defArgs sLaw) (defBody sLaw) (defScope sLaw) .none kV_law dc_law pm_law an_law (.ref cL) ct_law), sl_law⟩)
    (c_law : PySem.W.codeIn K (.ref cL) "law" = true)
    (lC : K.lookup cL = some ⟨oC, dC, .fields vC, slC⟩)
    (v11 : vC[11]? = some (.ref PT))
    (tN : K.lookup PT = none)
    (k_law : PySem.W.keepIn K (.ref f_law) = true)
    (a__law_outcome : PySem.W.nsIn K mainGlobals "_law_outcome" = some (some (.ref f__law_outcome)))
    (l__law_outcome : K.lookup f__law_outcome = some ⟨oc__law_outcome, od__law_outcome, .func (PySem.W.fnOf "_law_outcome" "_law_outcome" (defArgs sOutcome) (defBody sOutcome) (defScope sOutcome) .none kV__law_outcome dc__law_outcome pm__law_outcome an__law_outcome cd__law_outcome ct__law_outcome), sl__law_outcome⟩)
    (c__law_outcome : PySem.W.codeIn K cd__law_outcome "_law_outcome" = true)
    (k__law_outcome : PySem.W.keepIn K (.ref f__law_outcome) = true)
    (a_chairs_in : PySem.W.nsIn K mainGlobals "chairs_in" = some (some (.ref f_chairs_in)))
    (l_chairs_in : K.lookup f_chairs_in = some ⟨oc_chairs_in, od_chairs_in, .func (PySem.W.fnOf "chairs_in" "chairs_in" (defArgs s_chairs_in) (defBody s_chairs_in) (defScope s_chairs_in) .none kV_chairs_in dc_chairs_in pm_chairs_in an_chairs_in cd_chairs_in ct_chairs_in), sl_chairs_in⟩)
    (c_chairs_in : PySem.W.codeIn K cd_chairs_in "chairs_in" = true)
    (k_chairs_in : PySem.W.keepIn K (.ref f_chairs_in) = true)
    (aC : PySem.W.nsIn K mainGlobals "Plan" = some (some (.ref C)))
    (aminit : PySem.W.findIn K (.ref C) "__init__" = some (some (.ref fminit)))
    (iminit : PySem.W.isFn K (.ref fminit) = true)
    (lminit : K.lookup fminit = some ⟨ocminit, odminit, .func (PySem.W.fnOf "__init__" "Plan.__init__" (defArgs sInit) (defBody sInit) (defScope sInit) .none kVminit dcminit pmminit anminit cdminit ctminit), slminit⟩)
    (cminit : PySem.W.codeIn K cdminit "Plan.__init__" = true)
    (kminit : PySem.W.keepIn K (.ref fminit) = true)
    (amjoined : PySem.W.findIn K (.ref C) "joined" = some (some (.ref fmjoined)))
    (imjoined : PySem.W.isFn K (.ref fmjoined) = true)
    (lmjoined : K.lookup fmjoined = some ⟨ocmjoined, odmjoined, .func (PySem.W.fnOf "joined" "Plan.joined" (defArgs sJoined) (defBody sJoined) (defScope sJoined) .none kVmjoined dcmjoined pmmjoined anmjoined cdmjoined ctmjoined), slmjoined⟩)
    (cmjoined : PySem.W.codeIn K cdmjoined "Plan.joined" = true)
    (kmjoined : PySem.W.keepIn K (.ref fmjoined) = true)
    (gInvalidNumber : PySem.W.nsIn K mainGlobals "InvalidNumber" = some (some (.ref EInvalidNumber)))
    (xInvalidNumber : PySem.W.excIn K EInvalidNumber [.type "ValueError", .type "Exception", .type "BaseException", .type "object"] "ValueError.__new__" = true)
    (kInvalidNumber : PySem.W.keepIn K (.ref EInvalidNumber) = true)
    (bInvalidNumber : PySem.W.subIn K (.ref EInvalidNumber) (.type "BaseException") = some true)
    (tInvalidNumber : PySem.W.typeIn K (.ref EInvalidNumber) = some (.type "type"))
    (iInvalidNumber : PySem.W.isClsIn K EInvalidNumber = true)
    (sInvalidNumber : PySem.W.subIn K (.ref EInvalidNumber) (.ref EInvalidNumber) = some true)
    (nInvalidNumber : PySem.W.subIn K (.ref EInvalidNumber) (.type "StopIteration") = some false)
    (gDaybookError : PySem.W.nsIn K mainGlobals "DaybookError" = some (some (.ref EDaybookError)))
    (xDaybookError : K.lookup EDaybookError = some (excClassObj nmDaybookError qDaybookError EDaybookError NDaybookError bsDaybookError [.ref BDaybookError, .type "ValueError", .type "Exception", .type "BaseException", .type "object"] true snDaybookError subDaybookError abDaybookError colDaybookError ddDaybookError m0DaybookError m1DaybookError m2DaybookError m3DaybookError m5DaybookError "ValueError.__new__"))
    (kDaybookError : PySem.W.keepIn K (.ref EDaybookError) = true)
    (saDaybookError : PySem.W.findIn K (.ref EDaybookError) "__setattr__" = some (some (.builtin "object.__setattr__")))
    (gaDaybookError : PySem.W.findIn K (.ref EDaybookError) "__getattribute__" = some (some (.builtin "BaseException.__getattribute__")))
    (ggDaybookError : PySem.W.findIn K (.ref EDaybookError) "__getattr__" = some none)
    (nbDaybookError : PySem.W.findIn K (.ref EDaybookError) "row" = some none)
    (iDaybookError : PySem.W.findIn K (.ref EDaybookError) "__init__" = some (some (.ref fIDaybookError)))
    (tfDaybookError : PySem.W.typeIn K (.ref fIDaybookError) = some (.type "function"))
    (bDaybookError : PySem.W.subIn K (.ref EDaybookError) (.type "BaseException") = some true)
    (tDaybookError : PySem.W.typeIn K (.ref EDaybookError) = some (.type "type"))
    (hdDaybookError : PySem.W.hasDictIn K EDaybookError = true)
    (icDaybookError : PySem.W.isClsIn K EDaybookError = true)
    (sDaybookError : PySem.W.subIn K (.ref EDaybookError) (.ref EDaybookError) = some true)
    (svDaybookError : PySem.W.subIn K (.ref EDaybookError) (.type "ValueError") = some true)
    (suDaybookError : PySem.W.ks_superIn K EDaybookError EDaybookError "__init__" = some (some (.builtin "ValueError.__init__")))
    (opDaybookError : PySem.W.nsIn K cStatics "thirdparty.any" = some none)
    (zsDaybookError : PySem.W.nsIn K mainGlobals "super" = some none)
    (htDaybookError : (P.main.scope.names.lookup ("super" : Str)).isSome = false)
    (lDaybookError : K.lookup fIDaybookError = some ⟨ocDaybookError, odDaybookError, .func (PySem.W.ksFn "__init__" "DaybookError.__init__" (PySem.ErX.iA p1DaybookError p2DaybookError) (PySem.ErX.iB t1DaybookError t2DaybookError a1DaybookError a2DaybookError a3DaybookError a4DaybookError a5DaybookError a6DaybookError a7DaybookError a8DaybookError a9DaybookError a10DaybookError b1DaybookError b2DaybookError b3DaybookError b4DaybookError) PySem.ErX.iS .none kVDaybookError dcDaybookError pmDaybookError anDaybookError (.ref cdaDaybookError) ctDaybookError ccDaybookError), slDaybookError⟩)
    (cDaybookError : PySem.W.codeIn K (.ref cdaDaybookError) "DaybookError.__init__" = true)
    (lcDaybookError : K.lookup ccDaybookError = some ⟨clDaybookError, cldDaybookError, .cell (some (.ref EDaybookError)), cslDaybookError⟩)
    (ldDaybookError : K.lookup cdaDaybookError = some ⟨cclDaybookError, cddDaybookError, .fields vsDaybookError, ccsDaybookError⟩)
    (vfDaybookError : vsDaybookError[2]? = some (.str fileDaybookError tkDaybookError))
    (fiDaybookError : ((P.main.file : Str) == fileDaybookError) = true)
    (u1DaybookError : t1DaybookError.length ≤ 1000)
    (u2DaybookError : t2DaybookError.length ≤ 1000)
    (lnDaybookError : (a3DaybookError.endLine == a9DaybookError.line) = true)
    (aN : PySem.W.nsIn K mainGlobals "Entry" = some (some (.ref CN)))
    (pgN : PySem.W.plainGet K CN Str.empty = true)
    (hdN : PySem.W.hasDictIn K CN = true)
    (poN : PySem.W.plainOver K CN = true)
    (saN : PySem.W.findIn K (.ref CN) "__setattr__" = some (some (.builtin "object.__setattr__")))
    (mkN : PySem.W.makesIn K CN = true)
    (kcN : PySem.W.keepIn K (.ref CN) = true)
    (nN0 : PySem.W.findIn K (.ref CN) "words" = some none)
    (nN1 : PySem.W.findIn K (.ref CN) "step" = some none)
    (nN2 : PySem.W.findIn K (.ref CN) "number" = some none)
    (aei : PySem.W.findIn K (.ref CN) "__init__" = some (some (.ref fei)))
    (iei : PySem.W.isFn K (.ref fei) = true)
    (lei : K.lookup fei = some ⟨ocei, odei, .func (PySem.W.fnOf "__init__" "Entry.__init__" (defArgs s_Entry___init__) (defBody s_Entry___init__) (defScope s_Entry___init__) .none kVei dcei pmei anei cdei ctei), slei⟩)
    (cei : PySem.W.codeIn K cdei "Entry.__init__" = true)
    (kei : PySem.W.keepIn K (.ref fei) = true)
    (aD : PySem.W.nsIn K mainGlobals "Daybook" = some (some (.ref CD)))
    (pgD : PySem.W.plainGet K CD Str.empty = true)
    (hdD : PySem.W.hasDictIn K CD = true)
    (poD : PySem.W.plainOver K CD = true)
    (saD : PySem.W.findIn K (.ref CD) "__setattr__" = some (some (.builtin "object.__setattr__")))
    (mkD : PySem.W.makesIn K CD = true)
    (kcD : PySem.W.keepIn K (.ref CD) = true)
    (nD0 : PySem.W.findIn K (.ref CD) "first_row" = some none)
    (nD1 : PySem.W.findIn K (.ref CD) "all_chairs" = some none)
    (nD2 : PySem.W.findIn K (.ref CD) "entries" = some none)
    (adi : PySem.W.findIn K (.ref CD) "__init__" = some (some (.ref fdi)))
    (idi : PySem.W.isFn K (.ref fdi) = true)
    (ldi : K.lookup fdi = some ⟨ocdi, oddi, .func (PySem.W.fnOf "__init__" "Daybook.__init__" (defArgs s_Daybook___init__) (defBody s_Daybook___init__) (defScope s_Daybook___init__) .none kVdi dcdi pmdi andi cddi ctdi), sldi⟩)
    (cdi : PySem.W.codeIn K cddi "Daybook.__init__" = true)
    (kdi : PySem.W.keepIn K (.ref fdi) = true)
    (aft : PySem.W.findIn K (.ref CD) "fitting_starts" = some (some (.ref fft)))
    (ift : PySem.W.isFn K (.ref fft) = true)
    (lft : K.lookup fft = some ⟨ocft, odft, .func (PySem.W.fnOf "fitting_starts" "Daybook.fitting_starts" (defArgs s_Daybook_fitting_starts) (defBody s_Daybook_fitting_starts) (defScope s_Daybook_fitting_starts) .none kVft dcft pmft anft cdft ctft), slft⟩)
    (cft : PySem.W.codeIn K cdft "Daybook.fitting_starts" = true)
    (kft : PySem.W.keepIn K (.ref fft) = true)
    (arn : PySem.W.findIn K (.ref CD) "right_numbers" = some (some (.ref frn)))
    (irn : PySem.W.isFn K (.ref frn) = true)
    (lrn : K.lookup frn = some ⟨ocrn, odrn, .func (PySem.W.fnOf "right_numbers" "Daybook.right_numbers" (defArgs s_Daybook_right_numbers) (defBody s_Daybook_right_numbers) (defScope s_Daybook_right_numbers) .none kVrn dcrn pmrn anrn cdrn ctrn), slrn⟩)
    (crn : PySem.W.codeIn K cdrn "Daybook.right_numbers" = true)
    (krn : PySem.W.keepIn K (.ref frn) = true)
    (ack : PySem.W.findIn K (.ref CD) "check" = some (some (.ref fck)))
    (ick : PySem.W.isFn K (.ref fck) = true)
    (lck : K.lookup fck = some ⟨occk, odck, .func (PySem.W.fnOf "check" "Daybook.check" (defArgs s_Daybook_check) (defBody s_Daybook_check) (defScope s_Daybook_check) .none kVck dcck pmck anck cdck ctck), slck⟩)
    (cck : PySem.W.codeIn K cdck "Daybook.check" = true)
    (kck : PySem.W.keepIn K (.ref fck) = true)
    (afi : PySem.W.findIn K (.ref CD) "filled" = some (some (.ref ffi)))
    (ifi : PySem.W.isFn K (.ref ffi) = true)
    (lfi : K.lookup ffi = some ⟨ocfi, odfi, .func (PySem.W.fnOf "filled" "Daybook.filled" (defArgs s_Daybook_filled) (defBody s_Daybook_filled) (defScope s_Daybook_filled) .none kVfi dcfi pmfi anfi cdfi ctfi), slfi⟩)
    (cfi : PySem.W.codeIn K cdfi "Daybook.filled" = true)
    (kfi : PySem.W.keepIn K (.ref ffi) = true)
    (pArc : PySem.W.findIn K (.ref CD) "row_count" = some (some (.ref Prc)))
    (pGrc : PySem.W.specialIn K (.ref Prc) "__get__" = some (some (.builtin "property.__get__")))
    (pTrc : PySem.W.takesIn K (.ref Prc) = some true)
    (pRrc : PySem.W.recIn K Prc "property" = some (.ref frc :: rsrc))
    (lrc : K.lookup frc = some ⟨ocrc, odrc, .func (PySem.W.fnOf "row_count" "Daybook.row_count" (defArgs s_Daybook_row_count) (defBody s_Daybook_row_count) (defScope s_Daybook_row_count) .none kVrc dcrc pmrc anrc cdrc ctrc), slrc⟩)
    (crc : PySem.W.codeIn K cdrc "Daybook.row_count" = true)
    (krc : PySem.W.keepIn K (.ref frc) = true)
    (g9DecodeError : PySem.W.nsIn K mainGlobals "DecodeError" = some (some (.ref e9DecodeError)))
    (i9DecodeError : PySem.W.isClsIn K e9DecodeError = true)
    (t9DecodeError : PySem.W.typeIn K (.ref e9DecodeError) = some (.type "type"))
    (g9InvalidBooking : PySem.W.nsIn K mainGlobals "InvalidBooking" = some (some (.ref e9InvalidBooking)))
    (i9InvalidBooking : PySem.W.isClsIn K e9InvalidBooking = true)
    (t9InvalidBooking : PySem.W.typeIn K (.ref e9InvalidBooking) = some (.type "type"))
    (g9InvalidOperation : PySem.W.nsIn K mainGlobals "InvalidOperation" = some (some (.ref e9InvalidOperation)))
    (i9InvalidOperation : PySem.W.isClsIn K e9InvalidOperation = true)
    (t9InvalidOperation : PySem.W.typeIn K (.ref e9InvalidOperation) = some (.type "type"))
    (g9InvalidPlan : PySem.W.nsIn K mainGlobals "InvalidPlan" = some (some (.ref e9InvalidPlan)))
    (i9InvalidPlan : PySem.W.isClsIn K e9InvalidPlan = true)
    (t9InvalidPlan : PySem.W.typeIn K (.ref e9InvalidPlan) = some (.type "type"))
    (g9InvalidText : PySem.W.nsIn K mainGlobals "InvalidText" = some (some (.ref e9InvalidText)))
    (i9InvalidText : PySem.W.isClsIn K e9InvalidText = true)
    (t9InvalidText : PySem.W.typeIn K (.ref e9InvalidText) = some (.type "type"))
    (g9NotEnough : PySem.W.nsIn K mainGlobals "NotEnough" = some (some (.ref e9NotEnough)))
    (i9NotEnough : PySem.W.isClsIn K e9NotEnough = true)
    (t9NotEnough : PySem.W.typeIn K (.ref e9NotEnough) = some (.type "type"))
    (g9TooFewChairs : PySem.W.nsIn K mainGlobals "TooFewChairs" = some (some (.ref e9TooFewChairs)))
    (i9TooFewChairs : PySem.W.isClsIn K e9TooFewChairs = true)
    (t9TooFewChairs : PySem.W.typeIn K (.ref e9TooFewChairs) = some (.type "type"))
    (gCE : PySem.W.nsIn K mainGlobals "ChairError" = some (some (.ref CE)))
    (bCE : PySem.W.subIn K (.ref CE) (.type "BaseException") = some true)
    (dCE : PySem.W.hasDictIn K CE = true)
    (tCE : PySem.W.typeIn K (.ref CE) = some (.type "type"))
    (x5N : PySem.W.specialIn K (.builtin "object.__class__") "__get__" = some (some (.builtin "getset_descriptor.__get__")))
    (x6N : PySem.W.takesIn K (.builtin "object.__class__") = some true)
    (es_3_0 : PySem.W.subIn K (.ref EInvalidNumber) (.ref EDaybookError) = some false)
    (es_3_1 : PySem.W.subIn K (.ref EInvalidNumber) (.ref e9DecodeError) = some false)
    (es_3_2 : PySem.W.subIn K (.ref EInvalidNumber) (.ref e9InvalidBooking) = some false)
    (es_3_4 : PySem.W.subIn K (.ref EInvalidNumber) (.ref e9InvalidOperation) = some false)
    (es_3_5 : PySem.W.subIn K (.ref EInvalidNumber) (.ref e9InvalidPlan) = some false)
    (es_3_6 : PySem.W.subIn K (.ref EInvalidNumber) (.ref e9InvalidText) = some false)
    (es_3_7 : PySem.W.subIn K (.ref EInvalidNumber) (.ref e9NotEnough) = some false)
    (es_3_8 : PySem.W.subIn K (.ref EInvalidNumber) (.ref e9TooFewChairs) = some false)
    (sC_3 : PySem.W.subIn K (.ref EInvalidNumber) (.ref CE) = some true)
    (vE_3 : PySem.W.subIn K (.ref EInvalidNumber) (.type "ValueError") = some true)
    (x1_3 : PySem.W.findIn K (.ref EInvalidNumber) "__getattribute__" = some (some (.builtin "BaseException.__getattribute__")))
    (x2_3 : PySem.W.findIn K (.ref EInvalidNumber) "__getattr__" = some none)
    (x3_3 : PySem.W.hasDictIn K EInvalidNumber = true)
    (x4_3 : PySem.W.findIn K (.ref EInvalidNumber) "__class__" = some (some (.builtin "object.__class__")))
    (x7_3 : PySem.W.mroIn K EInvalidNumber (.type "object") = some true)
    (nI_3 : PySem.W.findIn K (.ref EInvalidNumber) "index" = some none)
    (nR_3 : PySem.W.findIn K (.ref EInvalidNumber) "row" = some none)
    (nO_3 : PySem.W.findIn K (.ref EInvalidNumber) "offset" = some none)
    (pA : PySem.W.findIn K (.ref C) "steps" = some (some (.ref pS)))
    (pG : PySem.W.specialIn K (.ref pS) "__get__" = some (some (.builtin "property.__get__")))
    (pT : PySem.W.takesIn K (.ref pS) = some true)
    (pR : PySem.W.recIn K pS "property" = some (.ref fmst :: rs))
    (lmst : K.lookup fmst = some ⟨ocmst, odmst, .func (PySem.W.fnOf "steps" "Plan.steps" (defArgs sSteps) (defBody sSteps) (defScope sSteps) .none kVmst dcmst pmmst anmst cdmst ctmst), slmst⟩)
    (cmst : PySem.W.codeIn K cdmst "Plan.steps" = true)
    (kmst : PySem.W.keepIn K (.ref fmst) = true)
    (pg : PySem.W.plainGet K C Str.empty = true)
    (hd : PySem.W.hasDictIn K C = true)
    (po : PySem.W.plainOver K C = true)
    (sa : PySem.W.findIn K (.ref C) "__setattr__" = some (some (.builtin "object.__setattr__")))
    (mk : PySem.W.makesIn K C = true)
    (kc : PySem.W.keepIn K (.ref C) = true)
    (nS : PySem.W.findIn K (.ref C) "step_tuple" = some none)
    (rd : PySem.W.readsIn K C (.type "type") = true)
    (ga : PySem.W.specialIn K (.ref C) "__getattribute__" = some (some (.builtin "type.__getattribute__")))
    (v1 : PySem.W.findCls K (.ref C) (.type "type") "MAX_STEPS" = some (.val (.int 60 t1)))
    (v2 : PySem.W.findCls K (.ref C) (.type "type") "MAX_CHAIRS" = some (.val (.int 1000000000000000000 t2)))
    (w2 : PySem.W.findIn K (.ref C) "MAX_CHAIRS" = some (some (.int 1000000000000000000 t3)))
    (w3 : PySem.W.specialIn K (.int 1000000000000000000 t3) "__get__" = some none)
    (aT : PySem.W.nsIn K mainGlobals "TURN" = some (some (.ref TU)))
    (lT : K.lookup TU = some ⟨.type "tuple", dT, .seq #[.str "turn" t4] nT, slT⟩)
    (q_DIGITS : PySem.W.nsIn K mainGlobals "DIGITS" = some (some (.str "0123456789" t_DIGITS)))
    (q_UNKNOWN : PySem.W.nsIn K mainGlobals "UNKNOWN" = some (some (.str "?" t_UNKNOWN)))
    (q_MAX_ROWS : PySem.W.nsIn K mainGlobals "MAX_ROWS" = some (some (.int 201 t_MAX_ROWS)))
    (z0 : PySem.W.nsIn K mainGlobals "isinstance" = some none)
    (z1 : PySem.W.nsIn K mainGlobals "int" = some none)
    (z2 : PySem.W.nsIn K mainGlobals "bool" = some none)
    (z3 : PySem.W.nsIn K mainGlobals "tuple" = some none)
    (z4 : PySem.W.nsIn K mainGlobals "list" = some none)
    (z5 : PySem.W.nsIn K mainGlobals "len" = some none)
    (z6 : PySem.W.nsIn K mainGlobals "max" = some none)
    (z7 : PySem.W.nsIn K mainGlobals "min" = some none)
    (z8 : PySem.W.nsIn K mainGlobals "abs" = some none)
    (z9 : PySem.W.nsIn K mainGlobals "enumerate" = some none)
    (z10 : PySem.W.nsIn K mainGlobals "range" = some none)
    (z11 : PySem.W.nsIn K mainGlobals "sum" = some none)
    (z12 : PySem.W.nsIn K mainGlobals "sorted" = some none)
    (z13 : PySem.W.nsIn K mainGlobals "divmod" = some none)
    (z14 : PySem.W.nsIn K mainGlobals "zip" = some none)
    (z15 : PySem.W.nsIn K mainGlobals "str" = some none)
    (z16 : PySem.W.nsIn K mainGlobals "dict" = some none)
    (z17 : PySem.W.nsIn K mainGlobals "ValueError" = some none)
    (z18 : PySem.W.nsIn K mainGlobals "any" = some none)
    : ∃ (fd : FuncData) (c T : Addr), PySem.W.tabIn K "law" = some (c, T) ∧ K.lookup T = none ∧ (∀ (s : Shared) (v : Value), BindsTo s fd ⟨[v], []⟩ [("_law_script", v)]) ∧ ∀ base : Heap, K.In base → base.Ns mainGlobals mg → TabB base mg c T → FnOk P w K mg base CX0 10 fa fd ["_law_script"] (spLawT K T) := by
  have e := hfa.symm.trans (PySem.W.mg_of X G a_law)
  cases e
  have Bb : Bt mg := ⟨PySem.W.mg_none_of X G z0, PySem.W.mg_none_of X G z1, PySem.W.mg_none_of X G z2, PySem.W.mg_none_of X G z3, PySem.W.mg_none_of X G z4, PySem.W.mg_none_of X G z5, PySem.W.mg_none_of X G z6, PySem.W.mg_none_of X G z7, PySem.W.mg_none_of X G z8, PySem.W.mg_none_of X G z9, PySem.W.mg_none_of X G z10, PySem.W.mg_none_of X G z11, PySem.W.mg_none_of X G z12, PySem.W.mg_none_of X G z13, PySem.W.mg_none_of X G z14, PySem.W.mg_none_of X G z15, PySem.W.mg_none_of X G z16, PySem.W.mg_none_of X G z17, PySem.W.mg_none_of X G z18⟩
  have F_is_whole := fun_mk (st := sIsWhole) l_is_whole c_is_whole k_is_whole
  have F_is_number := fun_mk (st := sIsNum) l_is_number c_is_number k_is_number
  have F_check_number := fun_mk (st := sChkNum) l_check_number c_check_number k_check_number
  have F_is_step := fun_mk (st := sIsStep) l_is_step c_is_step k_is_step
  have F_integer_in := fun_mk (st := s_integer_in) l_integer_in c_integer_in k_integer_in
  have F_allowed_range := fun_mk (st := sAllow) l_allowed_range c_allowed_range k_allowed_range
  have F_narrowed := fun_mk (st := sNarrow) l_narrowed c_narrowed k_narrowed
  have F_nearest := fun_mk (st := sNear) l_nearest c_nearest k_nearest
  have F_effect_of := fun_mk (st := sEffect) l_effect_of c_effect_of k_effect_of
  have F_numbers_that_carry := fun_mk (st := s_numbers_that_carry) l_numbers_that_carry c_numbers_that_carry k_numbers_that_carry
  have F_starts_that_lead := fun_mk (st := s_starts_that_lead) l_starts_that_lead c_starts_that_lead k_starts_that_lead
  have F_starts_that_carry := fun_mk (st := s_starts_that_carry) l_starts_that_carry c_starts_that_carry k_starts_that_carry
  have F_starts_that_leave := fun_mk (st := s_starts_that_leave) l_starts_that_leave c_starts_that_leave k_starts_that_leave
  have F_entry_in := fun_mk (st := s_entry_in) l_entry_in c_entry_in k_entry_in
  have F_starts_that_fit := fun_mk (st := s_starts_that_fit) l_starts_that_fit c_starts_that_fit k_starts_that_fit
  have F_after_step := fun_mk (st := s_after_step) l_after_step c_after_step k_after_step
  have F__law_mix := fun_mk (st := s__law_mix) l__law_mix c__law_mix k__law_mix
  have F__law_next := fun_mk (st := s__law_next) l__law_next c__law_next k__law_next
  have F__law_step := fun_mk (st := s__law_step) l__law_step c__law_step k__law_step
  have F__law_rows := fun_mk (st := s__law_rows) l__law_rows c__law_rows k__law_rows
  have F__law_right := fun_mk (st := s__law_right) l__law_right c__law_right k__law_right
  have F__law_alike := fun_mk (st := sAlike) l__law_alike c__law_alike k__law_alike
  have F__law_outcome := fun_mk (st := sOutcome) l__law_outcome c__law_outcome k__law_outcome
  have F_chairs_in := fun_mk (st := s_chairs_in) l_chairs_in c_chairs_in k_chairs_in
  have Fminit := fun_mk (st := sInit) lminit cminit kminit
  have Fmjoined := fun_mk (st := sJoined) lmjoined cmjoined kmjoined
  have Fmst := fun_mk (st := sSteps) lmst cmst kmst
  have b_is_whole := F_is_whole.binds (ps := ["value"]) fun _ _ _ _ _ _ us hl => match us, hl with | [_], _ => rfl
  have b_is_number := F_is_number.binds (ps := ["value", "least", "most"]) fun _ _ _ _ _ _ us hl => match us, hl with | [_, _, _], _ => rfl
  have b_check_number := F_check_number.binds (ps := ["value", "least", "most"]) fun _ _ _ _ _ _ us hl => match us, hl with | [_, _, _], _ => rfl
  have b_is_step := F_is_step.binds (ps := ["step"]) fun _ _ _ _ _ _ us hl => match us, hl with | [_], _ => rfl
  have b_integer_in := F_integer_in.binds (ps := ["word"]) fun _ _ _ _ _ _ us hl => match us, hl with | [_], _ => rfl
  have b_allowed_range := F_allowed_range.binds (ps := ["step", "chairs", "turned"]) fun _ _ _ _ _ _ us hl => match us, hl with | [_, _, _], _ => rfl
  have b_narrowed := F_narrowed.binds (ps := ["low", "high", "least", "most"]) fun _ _ _ _ _ _ us hl => match us, hl with | [_, _, _, _], _ => rfl
  have b_nearest := F_nearest.binds (ps := ["number", "least", "most"]) fun _ _ _ _ _ _ us hl => match us, hl with | [_, _, _], _ => rfl
  have b_effect_of := F_effect_of.binds (ps := ["steps", "chairs"]) fun _ _ _ _ _ _ us hl => match us, hl with | [_, _], _ => rfl
  have b_numbers_that_carry := F_numbers_that_carry.binds (ps := ["step", "chairs", "turned", "count"]) fun _ _ _ _ _ _ us hl => match us, hl with | [_, _, _, _], _ => rfl
  have b_starts_that_lead := F_starts_that_lead.binds (ps := ["effect", "chairs", "least", "most"]) fun _ _ _ _ _ _ us hl => match us, hl with | [_, _, _, _], _ => rfl
  have b_starts_that_carry := F_starts_that_carry.binds (ps := ["steps", "chairs", "step", "count"]) fun _ _ _ _ _ _ us hl => match us, hl with | [_, _, _, _], _ => rfl
  have b_starts_that_leave := F_starts_that_leave.binds (ps := ["steps", "chairs", "room", "count"]) fun _ _ _ _ _ _ us hl => match us, hl with | [_, _, _, _], _ => rfl
  have b_entry_in := F_entry_in.binds (ps := ["line", "chairs"]) fun _ _ _ _ _ _ us hl => match us, hl with | [_, _], _ => rfl
  have b_starts_that_fit := F_starts_that_fit.binds (ps := ["entry", "steps", "chairs"]) fun _ _ _ _ _ _ us hl => match us, hl with | [_, _, _], _ => rfl
  have b_after_step := F_after_step.binds (ps := ["step", "chairs", "red"]) fun _ _ _ _ _ _ us hl => match us, hl with | [_, _, _], _ => rfl
  have b__law_mix := F__law_mix.binds (ps := ["_law_script", "_law_seed"]) fun _ _ _ _ _ _ us hl => match us, hl with | [_, _], _ => rfl
  have b__law_next := F__law_next.binds (ps := ["_law_h", "_law_limit"]) fun _ _ _ _ _ _ us hl => match us, hl with | [_, _], _ => rfl
  have b__law_step := F__law_step.binds (ps := ["_law_chairs", "_law_place", "_law_turned", "_law_step_here"]) fun _ _ _ _ _ _ us hl => match us, hl with | [_, _, _, _], _ => rfl
  have b__law_rows := F__law_rows.binds (ps := ["_law_h", "_law_chairs", "_law_start", "_law_hidden"]) fun _ _ _ _ _ _ us hl => match us, hl with | [_, _, _, _], _ => rfl
  have b__law_right := F__law_right.binds (ps := ["_law_rows_here", "_law_chairs", "_law_start"]) fun _ _ _ _ _ _ us hl => match us, hl with | [_, _, _], _ => rfl
  have b__law_alike := F__law_alike.binds (ps := ["_law_found", "_law_due"]) fun _ _ _ _ _ _ us hl => match us, hl with | [_, _], _ => rfl
  have b__law_outcome := F__law_outcome.binds (ps := ["_law_call"]) fun _ _ _ _ _ _ us hl => match us, hl with | [_], _ => rfl
  have b_chairs_in := F_chairs_in.binds (ps := ["line"]) fun _ _ _ _ _ _ us hl => match us, hl with | [_], _ => rfl
  have bmst := Fmst.binds (ps := ["self"]) fun _ _ _ _ _ _ us hl => match us, hl with | [_], _ => rfl
  have Tt : Txt K mg C TU pS fmst (.type "type") := ⟨Bb, ⟨pg, hd, po, sa⟩, nS, PySem.W.mg_of X G aC, ⟨rd, ga⟩, ⟨_, v1, _, rfl⟩, ⟨_, v2, _, rfl⟩, ⟨_, w2, ⟨_, rfl⟩, w3, rfl⟩, PySem.W.mg_of X G aT,
    fun H => .inr ⟨_, _, _, lT, rfl, rfl, by show 1 ≤ sizeLine; decide, .cons ⟨_, rfl⟩ .nil⟩, ⟨pA, pG, pT, rs, pR⟩⟩
  refine ⟨PySem.W.fnOf "law" "law" (defArgs sLaw) (defBody sLaw) (defScope sLaw) .none kV_law dc_law pm_law an_law (.ref cL) ct_law, cL, PT, tab_mk a_law l_law rfl lC v11, tN, fun s v => .of_eq rfl, fun base _ _ TB => ?_⟩
  have at_ := fun {x : Str} {f : Addr} (a : PySem.W.nsIn K mainGlobals x = some (some (.ref f))) => PySem.W.mg_of X G a
  have Gg : Gs P w K mg base C fmst _ := ⟨ok_steps Fmst Tt, bmst⟩
  have Mm : Mk K C fminit := ⟨mk, aminit, iminit, kc⟩
  have Mj : Meth K C "joined" fmjoined := ⟨amjoined, imjoined, kmjoined⟩
  have D_is_whole := dn_mk (P := P) (w := w) (base := base) (at_ a_is_whole) k_is_whole (ok_iswhole F_is_whole Bb) b_is_whole
  have D_is_number := dn_mk (P := P) (w := w) (base := base) (at_ a_is_number) k_is_number (ok_isnum F_is_number D_is_whole) b_is_number
  have D_check_number := dn_mk (P := P) (w := w) (base := base) (at_ a_check_number) k_check_number (ok_chknum F_check_number D_is_number) b_check_number
  have D_is_step := dn_mk (P := P) (w := w) (base := base) (at_ a_is_step) k_is_step (ok_isstep F_is_step Tt D_is_number) b_is_step
  have GI := ok_init Fminit Tt D_is_step
  have D_integer_in := dn_mk (P := P) (w := w) (base := base) (at_ a_integer_in) k_integer_in (ok_integer_in F_integer_in Bb ⟨_, PySem.W.mg_of X G q_DIGITS, ⟨_, rfl⟩⟩) b_integer_in
  have D_allowed_range := dn_mk (P := P) (w := w) (base := base) (at_ a_allowed_range) k_allowed_range (ok_allow F_allowed_range ) b_allowed_range
  have D_narrowed := dn_mk (P := P) (w := w) (base := base) (at_ a_narrowed) k_narrowed (ok_narrow F_narrowed Bb) b_narrowed
  have D_nearest := dn_mk (P := P) (w := w) (base := base) (at_ a_nearest) k_nearest (ok_near F_nearest Bb) b_nearest
  have D_effect_of := dn_mk (P := P) (w := w) (base := base) (at_ a_effect_of) k_effect_of (ok_effectL F_effect_of Tt D_allowed_range D_narrowed D_nearest) b_effect_of
  have D_numbers_that_carry := dn_mk (P := P) (w := w) (base := base) (at_ a_numbers_that_carry) k_numbers_that_carry (ok_numbers_that_carry F_numbers_that_carry Tt D_allowed_range) b_numbers_that_carry
  have D_starts_that_lead := dn_mk (P := P) (w := w) (base := base) (at_ a_starts_that_lead) k_starts_that_lead (ok_starts_that_lead F_starts_that_lead Tt) b_starts_that_lead
  have D_starts_that_carry := dn_mk (P := P) (w := w) (base := base) (at_ a_starts_that_carry) k_starts_that_carry (ok_starts_that_carry F_starts_that_carry D_effect_of D_numbers_that_carry D_starts_that_lead) b_starts_that_carry
  have D_starts_that_leave := dn_mk (P := P) (w := w) (base := base) (at_ a_starts_that_leave) k_starts_that_leave (ok_starts_that_leave F_starts_that_leave D_effect_of D_starts_that_lead) b_starts_that_leave
  have Fei := fun_mk (st := s_Entry___init__) lei cei kei
  have bei := Fei.binds (ps := ["self", "words", "step", "number"]) fun _ _ _ _ _ _ us hl => match us, hl with | [_, _, _, _], _ => rfl
  have NN : NTxt K CN := ⟨⟨pgN, hdN, poN, saN⟩, nN0, nN1, nN2⟩
  have ME : Mk K CN fei := ⟨mkN, aei, iei, kcN⟩
  have GE : FnR P w K mg base CX0 1 fei (spEntInit CN) := ((ok_Entry___init__ (P := P) (w := w) (base := base) (mg := mg) Fei NN).raw bei .nil).imp fun vs H Q E h => by rw [List.append_nil]; exact h
  have gE := at_ aN
  have DW : Dn P w K mg base 0 "is_whole" f_is_whole spIsWholeO := dn_mk (at_ a_is_whole) k_is_whole (ok_iswholeO F_is_whole Bb) b_is_whole
  have DO : Dn P w K mg base 1 "is_number" f_is_number spIsNumO := dn_mk (at_ a_is_number) k_is_number (ok_isnumO F_is_number DW) b_is_number
  have D_entry_in := dn_mk (P := P) (w := w) (base := base) (at_ a_entry_in) k_entry_in (ok_entry_in F_entry_in Tt ⟨_, PySem.W.mg_of X G q_UNKNOWN, ⟨_, rfl⟩⟩ D_integer_in ME GE gE DO) b_entry_in
  have D_starts_that_fit := dn_mk (P := P) (w := w) (base := base) (at_ a_starts_that_fit) k_starts_that_fit (ok_starts_that_fit F_starts_that_fit D_starts_that_leave D_starts_that_carry NN) b_starts_that_fit
  have D_after_step := dn_mk (P := P) (w := w) (base := base) (at_ a_after_step) k_after_step (ok_after_step F_after_step Tt) b_after_step
  have D__law_mix := dn_mk (P := P) (w := w) (base := base) (at_ a__law_mix) k__law_mix (ok__law_mix F__law_mix Bb) b__law_mix
  have D__law_next := dn_mk (P := P) (w := w) (base := base) (at_ a__law_next) k__law_next (ok__law_next F__law_next Bb) b__law_next
  have D__law_step := dn_mk (P := P) (w := w) (base := base) (at_ a__law_step) k__law_step (ok__law_step F__law_step Bb) b__law_step
  have D__law_rows := dn_mk (P := P) (w := w) (base := base) (at_ a__law_rows) k__law_rows (ok__law_rows F__law_rows Bb D__law_next D__law_step) b__law_rows
  have D__law_right := dn_mk (P := P) (w := w) (base := base) (at_ a__law_right) k__law_right (ok__law_right F__law_right Bb D__law_step) b__law_right
  have D__law_alike := dn_mk (P := P) (w := w) (base := base) (at_ a__law_alike) k__law_alike (ok_alikeD F__law_alike Bb (at_ a__law_alike) k__law_alike b__law_alike 2) b__law_alike
  have ERInvalidNumber : Err K mg "InvalidNumber" EInvalidNumber := ⟨PySem.W.mg_of X G gInvalidNumber, kInvalidNumber, ⟨_, _, _, _, PySem.F.excBase_ValueError, xInvalidNumber⟩, bInvalidNumber, tInvalidNumber⟩
  have EXInvalidNumber : PySem.W.exmOne K (.ref EInvalidNumber) (.ref EInvalidNumber) = some true := exm_own bInvalidNumber iInvalidNumber tInvalidNumber sInvalidNumber
  have XTDaybookError : PySem.ErX.EiTxt P K mg "DaybookError" EDaybookError fIDaybookError := ⟨PySem.W.mg_of X G gDaybookError, kDaybookError, ⟨_, _, _, _, _, _, _, _, _, _, _, _, _, _, _, xDaybookError, by show PySem.HandSPX.refsVE PySem.HandSPX.veTail = true; decide +kernel⟩, saDaybookError, nbDaybookError, iDaybookError, tfDaybookError, bDaybookError, tDaybookError, svDaybookError, suDaybookError, opDaybookError, PySem.W.mg_none_of X G zsDaybookError, htDaybookError,
    ⟨ccDaybookError, cdaDaybookError, _, _, _, _, _, _, _, _, _, _, _, _, _, _, _, _, _, _, _, _, _, _, _, _, _, _, _, _, _, _, _, _, _, _, _, _, lDaybookError, cDaybookError, lcDaybookError, ldDaybookError, vfDaybookError, fiDaybookError, u1DaybookError, u2DaybookError, lnDaybookError⟩⟩
  have XFDaybookError : XfC K EDaybookError := ⟨gaDaybookError, ggDaybookError, bDaybookError, hdDaybookError⟩
  have EXDaybookError : PySem.W.exmOne K (.ref EDaybookError) (.ref EDaybookError) = some true := exm_own bDaybookError icDaybookError tDaybookError sDaybookError
  have Fdi := fun_mk (st := s_Daybook___init__) ldi cdi kdi
  have Fft := fun_mk (st := s_Daybook_fitting_starts) lft cft kft
  have Frn := fun_mk (st := s_Daybook_right_numbers) lrn crn krn
  have Fck := fun_mk (st := s_Daybook_check) lck cck kck
  have Ffi := fun_mk (st := s_Daybook_filled) lfi cfi kfi
  have Frc := fun_mk (st := s_Daybook_row_count) lrc crc krc
  have brc := Frc.binds (ps := ["self"]) fun _ _ _ _ _ _ us hl => match us, hl with | [_], _ => rfl
  have Qrc : PropOf K CD "row_count" Prc frc := ⟨pArc, pGrc, pTrc, rsrc, pRrc⟩
  have bdi := Fdi.binds (ps := ["self", "text"]) fun _ _ _ _ _ _ us hl => match us, hl with | [_, _], _ => rfl
  have bft := Fft.binds (ps := ["self"]) fun _ _ _ _ _ _ us hl => match us, hl with | [_], _ => rfl
  have brn := Frn.binds (ps := ["self", "start"]) fun _ _ _ _ _ _ us hl => match us, hl with | [_, _], _ => rfl
  have bck := Fck.binds (ps := ["self", "start"]) fun _ _ _ _ _ _ us hl => match us, hl with | [_, _], _ => rfl
  have bfi := Ffi.binds (ps := ["self", "start"]) fun _ _ _ _ _ _ us hl => match us, hl with | [_, _], _ => rfl
  have DD : DTxt K CD := ⟨⟨pgD, hdD, poD, saD⟩, nD0, nD1, nD2⟩
  have MD : Mk K CD fdi := ⟨mkD, adi, idi, kcD⟩
  have DXc := dnx_mk (P := P) (w := w) (base := base) (at_ a_chairs_in) k_chairs_in (okx_chairs_in F_chairs_in Tt D_integer_in XTDaybookError DO) b_chairs_in
  have GD : FnR P w K mg base (L2.CX P w) 4 fdi (spDayInit CD CN EDaybookError TU) := ((okx_Daybook___init__ (P := P) (w := w) (base := base) (mg := mg) Fdi Tt ⟨_, PySem.W.mg_of X G q_MAX_ROWS, ⟨_, rfl⟩⟩ D_entry_in DXc DD XTDaybookError).raw bdi .nil).imp fun vs H Q E h => by rw [List.append_nil]; exact h
  have MF : Meth K CD "fitting_starts" fft := ⟨aft, ift, kft⟩
  have GF : FnR P w K mg base CX0 5 fft (spFit CD CN TU) := ((ok_Daybook_fitting_starts (P := P) (w := w) (base := base) (mg := mg) Fft Bb D_starts_that_fit DD NN).raw bft .nil).imp fun vs H Q E h => by rw [List.append_nil]; exact h
  have ORow := ok_Daybook_row_count (P := P) (w := w) (base := base) (mg := mg) (CE := CN) (TU := TU) Frc Bb DD
  have GDQ : FnR P w K mg base CX0 4 fdi (spDayInitQ CD CN EDaybookError TU) := fnr_calm GD
  have DNX := dnx_mk (P := P) (w := w) (base := base) (at_ a_check_number) k_check_number (ok_numx F_check_number D_is_number ERInvalidNumber) b_check_number
  have MR : Meth K CD "right_numbers" frn := ⟨arn, irn, krn⟩
  have GR : FnR P w K mg base (L2.CX P w) 3 frn (spRights CD CN TU EInvalidNumber) := ((okx_Daybook_right_numbers (P := P) (w := w) (base := base) (mg := mg) Frn Tt D_after_step DNX DD NN).raw brn .nil).imp fun vs H Q E h => by rw [List.append_nil]; exact h
  have MC : Meth K CD "check" fck := ⟨ack, ick, kck⟩
  have GCX : FnR P w K mg base (L2.CX P w) 4 fck (spCheck CD CN TU EInvalidNumber) := ((okx_Daybook_check (P := P) (w := w) (base := base) (mg := mg) Fck Tt DD NN MR GR).raw bck .nil).imp fun vs H Q E h => by rw [List.append_nil]; exact h
  have GC : FnR P w K mg base CX0 4 fck (spCheckQ CD CN TU EInvalidNumber) := fnr_calm GCX
  have ML : Meth K CD "filled" ffi := ⟨afi, ifi, kfi⟩
  have GLX : FnR P w K mg base (L2.CX P w) 4 ffi (spFilled CD CN TU EInvalidNumber) := ((okx_Daybook_filled (P := P) (w := w) (base := base) (mg := mg) Ffi Tt DD NN MR GR).raw bfi .nil).imp fun vs H Q E h => by rw [List.append_nil]; exact h
  have GL : FnR P w K mg base CX0 4 ffi (spFilledQ CD CN TU EInvalidNumber) := fnr_calm GLX
  have Knumber : IsKind K CE EDaybookError e9DecodeError e9InvalidBooking EInvalidNumber e9InvalidOperation e9InvalidPlan e9InvalidText e9NotEnough e9TooFewChairs EInvalidNumber "number" := ⟨PySem.W.exm_ref bCE dCE tCE sC_3, _, _, _, _, _, _, _, _, _, 3, ⟨⟨x1_3, x2_3, bInvalidNumber, x3_3, x4_3, x5N, x6N, x7_3⟩, ⟨x1_3, x2_3, bInvalidNumber, x3_3⟩, tInvalidNumber, sInvalidNumber, nI_3, nR_3, nO_3, kit_noB sInvalidNumber icDaybookError tDaybookError es_3_0, kit_noB sInvalidNumber i9DecodeError t9DecodeError es_3_1, kit_noB sInvalidNumber i9InvalidBooking t9InvalidBooking es_3_2, kit_ref iInvalidNumber tInvalidNumber sInvalidNumber (fun z => nomatch z), kit_noB sInvalidNumber i9InvalidOperation t9InvalidOperation es_3_4, kit_noB sInvalidNumber i9InvalidPlan t9InvalidPlan es_3_5, kit_noB sInvalidNumber i9InvalidText t9InvalidText es_3_6, kit_noB sInvalidNumber i9NotEnough t9NotEnough es_3_7, kit_noB sInvalidNumber i9TooFewChairs t9TooFewChairs es_3_8, kit_ve vE_3⟩, flags_number⟩
  have NG : Nine mg EDaybookError e9DecodeError e9InvalidBooking EInvalidNumber e9InvalidOperation e9InvalidPlan e9InvalidText e9NotEnough e9TooFewChairs := ⟨at_ gDaybookError, at_ g9DecodeError, at_ g9InvalidBooking, at_ gInvalidNumber, at_ g9InvalidOperation, at_ g9InvalidPlan, at_ g9InvalidText, at_ g9NotEnough, at_ g9TooFewChairs⟩
  exact ok_law l_law c_law TB Tt D__law_mix D__law_next D__law_rows D__law_right D__law_alike F__law_outcome (at_ a__law_outcome) k__law_outcome b__law_outcome (at_ gCE) NG Knumber DD MD GDQ (at_ aD) Qrc ORow brc MF GF MC GC ML GL GCX GLX
end Cc

open PySem PySem.W PyProof.Rows
set_option maxRecDepth 100000 in
set_option maxHeartbeats 0 in
theorem PySem.Challenge.cw_chaircarry_k46_whole_daybooks_for_all_st_holds : PySem.Challenge.rw_chaircarry_k46_whole_daybooks_for_all_st.Holds := by
  w_on; o_law; k_head; (case hw => w_witness2)
  k_fill
  refine Cc.walk_tab (l := PySem.Challenge.rw_chaircarry_k46_whole_daybooks_for_all_st) (n := 63) (k := 10) (x := "_law_script") (sp := fun w T => Cc.spLawT _ T) rfl (by decide) rfl ⟨rfl, by decide, by decide⟩ (fun w h Y => PySem.W.km_in_of Y) rfl ?F fun _ T H a ns hl hT hF => ⟨a, ns, rfl, hF, hl, hT, fun _ => rfl⟩
  case F =>
    intro w mg fa h KX G hmg
    refine' Cc.all_mk KX G hmg ?a_is_whole ?l_is_whole ?c_is_whole ?k_is_whole ?a_is_number ?l_is_number ?c_is_number ?k_is_number ?a_check_number ?l_check_number ?c_check_number ?k_check_number ?a_is_step ?l_is_step ?c_is_step ?k_is_step ?a_integer_in ?l_integer_in ?c_integer_in ?k_integer_in ?a_allowed_range ?l_allowed_range ?c_allowed_range ?k_allowed_range ?a_narrowed ?l_narrowed ?c_narrowed ?k_narrowed ?a_nearest ?l_nearest ?c_nearest ?k_nearest ?a_effect_of ?l_effect_of ?c_effect_of ?k_effect_of ?a_numbers_that_carry ?l_numbers_that_carry ?c_numbers_that_carry ?k_numbers_that_carry ?a_starts_that_lead ?l_starts_that_lead ?c_starts_that_lead ?k_starts_that_lead ?a_starts_that_carry ?l_starts_that_carry ?c_starts_that_carry ?k_starts_that_carry ?a_starts_that_leave ?l_starts_that_leave ?c_starts_that_leave ?k_starts_that_leave ?a_entry_in ?l_entry_in ?c_entry_in ?k_entry_in ?a_starts_that_fit ?l_starts_that_fit ?c_starts_that_fit ?k_starts_that_fit ?a_after_step ?l_after_step ?c_after_step ?k_after_step ?a__law_mix ?l__law_mix ?c__law_mix ?k__law_mix ?a__law_next ?l__law_next ?c__law_next ?k__law_next ?a__law_step ?l__law_step ?c__law_step ?k__law_step ?a__law_rows ?l__law_rows ?c__law_rows ?k__law_rows ?a__law_right ?l__law_right ?c__law_right ?k__law_right ?a__law_alike ?l__law_alike ?c__law_alike ?k__law_alike ?a_law ?l_law ?c_law ?lC ?v11 ?tN ?k_law ?a__law_outcome ?l__law_outcome ?c__law_outcome ?k__law_outcome ?a_chairs_in ?l_chairs_in ?c_chairs_in ?k_chairs_in ?aC ?aminit ?iminit ?lminit ?cminit ?kminit ?amjoined ?imjoined ?lmjoined ?cmjoined ?kmjoined ?gInvalidNumber ?xInvalidNumber ?kInvalidNumber ?bInvalidNumber ?tInvalidNumber ?iInvalidNumber ?sInvalidNumber ?nInvalidNumber ?gDaybookError ?xDaybookError ?kDaybookError ?saDaybookError ?gaDaybookError ?ggDaybookError ?nbDaybookError ?iDaybookError ?tfDaybookError ?bDaybookError ?tDaybookError ?hdDaybookError ?icDaybookError ?sDaybookError ?svDaybookError ?suDaybookError ?opDaybookError ?zsDaybookError ?htDaybookError ?lDaybookError ?cDaybookError ?lcDaybookError ?ldDaybookError ?vfDaybookError ?fiDaybookError ?u1DaybookError ?u2DaybookError ?lnDaybookError ?aN ?pgN ?hdN ?poN ?saN ?mkN ?kcN ?nN0 ?nN1 ?nN2 ?aei ?iei ?lei ?cei ?kei ?aD ?pgD ?hdD ?poD ?saD ?mkD ?kcD ?nD0 ?nD1 ?nD2 ?adi ?idi ?ldi ?cdi ?kdi ?aft ?ift ?lft ?cft ?kft ?arn ?irn ?lrn ?crn ?krn ?ack ?ick ?lck ?cck ?kck ?afi ?ifi ?lfi ?cfi ?kfi ?pArc ?pGrc ?pTrc ?pRrc ?lrc ?crc ?krc ?g9DecodeError ?i9DecodeError ?t9DecodeError ?g9InvalidBooking ?i9InvalidBooking ?t9InvalidBooking ?g9InvalidOperation ?i9InvalidOperation ?t9InvalidOperation ?g9InvalidPlan ?i9InvalidPlan ?t9InvalidPlan ?g9InvalidText ?i9InvalidText ?t9InvalidText ?g9NotEnough ?i9NotEnough ?t9NotEnough ?g9TooFewChairs ?i9TooFewChairs ?t9TooFewChairs ?gCE ?bCE ?dCE ?tCE ?x5N ?x6N ?es_3_0 ?es_3_1 ?es_3_2 ?es_3_4 ?es_3_5 ?es_3_6 ?es_3_7 ?es_3_8 ?sC_3 ?vE_3 ?x1_3 ?x2_3 ?x3_3 ?x4_3 ?x7_3 ?nI_3 ?nR_3 ?nO_3 ?pA ?pG ?pT ?pR ?lmst ?cmst ?kmst ?pg ?hd ?po ?sa ?mk ?kc ?nS ?rd ?ga ?v1 ?v2 ?w2 ?w3 ?aT ?lT ?q_DIGITS ?q_UNKNOWN ?q_MAX_ROWS ?z0 ?z1 ?z2 ?z3 ?z4 ?z5 ?z6 ?z7 ?z8 ?z9 ?z10 ?z11 ?z12 ?z13 ?z14 ?z15 ?z16 ?z17 ?z18
    (case a_is_whole => k_is); (case l_is_whole => k_is); (case c_is_whole => k_is); (case k_is_whole => k_is); (case a_is_number => k_is); (case l_is_number => k_is)
    (case c_is_number => k_is); (case k_is_number => k_is); (case a_check_number => k_is); (case l_check_number => k_is); (case c_check_number => k_is); (case k_check_number => k_is)
    (case a_is_step => k_is); (case l_is_step => k_is); (case c_is_step => k_is); (case k_is_step => k_is); (case a_integer_in => k_is); (case l_integer_in => k_is)
    (case c_integer_in => k_is); (case k_integer_in => k_is); (case a_allowed_range => k_is); (case l_allowed_range => k_is); (case c_allowed_range => k_is); (case k_allowed_range => k_is)
    (case a_narrowed => k_is); (case l_narrowed => k_is); (case c_narrowed => k_is); (case k_narrowed => k_is); (case a_nearest => k_is); (case l_nearest => k_is)
    (case c_nearest => k_is); (case k_nearest => k_is); (case a_effect_of => k_is); (case l_effect_of => k_is); (case c_effect_of => k_is); (case k_effect_of => k_is)
    (case a_numbers_that_carry => k_is); (case l_numbers_that_carry => k_is); (case c_numbers_that_carry => k_is); (case k_numbers_that_carry => k_is); (case a_starts_that_lead => k_is); (case l_starts_that_lead => k_is)
    (case c_starts_that_lead => k_is); (case k_starts_that_lead => k_is); (case a_starts_that_carry => k_is); (case l_starts_that_carry => k_is); (case c_starts_that_carry => k_is); (case k_starts_that_carry => k_is)
    (case a_starts_that_leave => k_is); (case l_starts_that_leave => k_is); (case c_starts_that_leave => k_is); (case k_starts_that_leave => k_is); (case a_entry_in => k_is); (case l_entry_in => k_is)
    (case c_entry_in => k_is); (case k_entry_in => k_is); (case a_starts_that_fit => k_is); (case l_starts_that_fit => k_is); (case c_starts_that_fit => k_is); (case k_starts_that_fit => k_is)
    (case a_after_step => k_is); (case l_after_step => k_is); (case c_after_step => k_is); (case k_after_step => k_is); (case a__law_mix => k_is); (case l__law_mix => k_is)
    (case c__law_mix => k_is); (case k__law_mix => k_is); (case a__law_next => k_is); (case l__law_next => k_is); (case c__law_next => k_is); (case k__law_next => k_is)
    (case a__law_step => k_is); (case l__law_step => k_is); (case c__law_step => k_is); (case k__law_step => k_is); (case a__law_rows => k_is); (case l__law_rows => k_is)
    (case c__law_rows => k_is); (case k__law_rows => k_is); (case a__law_right => k_is); (case l__law_right => k_is); (case c__law_right => k_is); (case k__law_right => k_is)
    (case a__law_alike => k_is); (case l__law_alike => k_is); (case c__law_alike => k_is); (case k__law_alike => k_is); (case a_law => k_is); (case l_law => k_is)
    (case c_law => k_is); (case lC => k_is); (case v11 => exact rfl); (case tN => exact rfl); (case k_law => k_is); (case a__law_outcome => k_is)
    (case l__law_outcome => k_is); (case c__law_outcome => k_is); (case k__law_outcome => k_is); (case a_chairs_in => k_is); (case l_chairs_in => k_is); (case c_chairs_in => k_is)
    (case k_chairs_in => k_is); (case aC => k_is); (case aminit => k_is); (case iminit => k_is); (case lminit => k_is); (case cminit => k_is)
    (case kminit => k_is); (case amjoined => k_is); (case imjoined => k_is); (case lmjoined => k_is); (case cmjoined => k_is); (case kmjoined => k_is)
    (case gInvalidNumber => k_is); (case xInvalidNumber => k_exc); (case kInvalidNumber => k_is); (case bInvalidNumber => k_is); (case tInvalidNumber => k_is); (case iInvalidNumber => k_is)
    (case sInvalidNumber => first | rfl | k_is); (case nInvalidNumber => k_is); (case gDaybookError => k_is); (case xDaybookError => k_is); (case kDaybookError => k_is); (case saDaybookError => k_is)
    (case gaDaybookError => k_is); (case ggDaybookError => k_is); (case nbDaybookError => k_is); (case iDaybookError => k_is); (case tfDaybookError => k_is); (case bDaybookError => k_is)
    (case tDaybookError => k_is); (case hdDaybookError => k_is); (case icDaybookError => k_is); (case sDaybookError => first | rfl | k_is); (case svDaybookError => k_is); (case suDaybookError => ks_is)
    (case opDaybookError => k_is); (case zsDaybookError => k_is); (case htDaybookError => first | rfl | decide +kernel); (case lDaybookError => k_is); (case cDaybookError => k_is); (case lcDaybookError => k_is)
    (case ldDaybookError => k_is); (case vfDaybookError => first | exact rfl | decide +kernel); (case fiDaybookError => first | rfl | decide +kernel); (case u1DaybookError => decide +kernel); (case u2DaybookError => decide +kernel); (case lnDaybookError => first | rfl | decide +kernel)
    (case aN => k_is); (case pgN => k_is); (case hdN => k_is); (case poN => k_is); (case saN => k_is); (case mkN => k_is)
    (case kcN => k_is); (case nN0 => k_is); (case nN1 => k_is); (case nN2 => k_is); (case aei => k_is); (case iei => k_is)
    (case lei => k_is); (case cei => k_is); (case kei => k_is); (case aD => k_is); (case pgD => k_is); (case hdD => k_is)
    (case poD => k_is); (case saD => k_is); (case mkD => k_is); (case kcD => k_is); (case nD0 => k_is); (case nD1 => k_is)
    (case nD2 => k_is); (case adi => k_is); (case idi => k_is); (case ldi => k_is); (case cdi => k_is); (case kdi => k_is)
    (case aft => k_is); (case ift => k_is); (case lft => k_is); (case cft => k_is); (case kft => k_is); (case arn => k_is)
    (case irn => k_is); (case lrn => k_is); (case crn => k_is); (case krn => k_is); (case ack => k_is); (case ick => k_is)
    (case lck => k_is); (case cck => k_is); (case kck => k_is); (case afi => k_is); (case ifi => k_is); (case lfi => k_is)
    (case cfi => k_is); (case kfi => k_is); (case pArc => k_is); (case pGrc => k_is); (case pTrc => k_is); (case pRrc => k_is)
    (case lrc => k_is); (case crc => k_is); (case krc => k_is); (case g9DecodeError => k_is); (case i9DecodeError => k_is); (case t9DecodeError => k_is)
    (case g9InvalidBooking => k_is); (case i9InvalidBooking => k_is); (case t9InvalidBooking => k_is); (case g9InvalidOperation => k_is); (case i9InvalidOperation => k_is); (case t9InvalidOperation => k_is)
    (case g9InvalidPlan => k_is); (case i9InvalidPlan => k_is); (case t9InvalidPlan => k_is); (case g9InvalidText => k_is); (case i9InvalidText => k_is); (case t9InvalidText => k_is)
    (case g9NotEnough => k_is); (case i9NotEnough => k_is); (case t9NotEnough => k_is); (case g9TooFewChairs => k_is); (case i9TooFewChairs => k_is); (case t9TooFewChairs => k_is)
    (case gCE => k_is); (case bCE => k_is); (case dCE => k_is); (case tCE => k_is); (case x5N => k_is); (case x6N => k_is)
    (case es_3_0 => first | rfl | k_is); (case es_3_1 => first | rfl | k_is); (case es_3_2 => first | rfl | k_is); (case es_3_4 => first | rfl | k_is); (case es_3_5 => first | rfl | k_is); (case es_3_6 => first | rfl | k_is)
    (case es_3_7 => first | rfl | k_is); (case es_3_8 => first | rfl | k_is); (case sC_3 => first | rfl | k_is); (case vE_3 => k_is); (case x1_3 => k_is); (case x2_3 => k_is)
    (case x3_3 => k_is); (case x4_3 => k_is); (case x7_3 => k_is); (case nI_3 => k_is); (case nR_3 => k_is); (case nO_3 => k_is)
    (case pA => k_is); (case pG => k_is); (case pT => k_is); (case pR => k_is); (case lmst => k_is); (case cmst => k_is)
    (case kmst => k_is); (case pg => k_is); (case hd => k_is); (case po => k_is); (case sa => k_is); (case mk => k_is)
    (case kc => k_is); (case nS => k_is); (case rd => k_is); (case ga => k_is); (case v1 => k_is); (case v2 => k_is)
    (case w2 => k_is); (case w3 => k_is); (case aT => k_is); (case lT => k_is); (case q_DIGITS => k_is); (case q_UNKNOWN => k_is)
    (case q_MAX_ROWS => k_is); (case z0 => k_is); (case z1 => k_is); (case z2 => k_is); (case z3 => k_is); (case z4 => k_is)
    (case z5 => k_is); (case z6 => k_is); (case z7 => k_is); (case z8 => k_is); (case z9 => k_is); (case z10 => k_is)
    (case z11 => k_is); (case z12 => k_is); (case z13 => k_is); (case z14 => k_is); (case z15 => k_is); (case z16 => k_is)
    (case z17 => k_is); (case z18 => k_is)
#print axioms PySem.Challenge.cw_chaircarry_k46_whole_daybooks_for_all_st_holds
