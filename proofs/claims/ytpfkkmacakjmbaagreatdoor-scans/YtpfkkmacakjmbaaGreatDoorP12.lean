import Derived.Test.YtpfkkmacakjmbaaGreatDoorP11
set_option maxRecDepth 100000
set_option maxHeartbeats 6400000
namespace Go.Proofs.YtpfkkmacakjmbaaGreatDoor
open Go Go.RowKit Sp
set_option linter.unusedSimpArgs false
set_option linter.unusedVariables false
attribute [local go_sem ↓] Go.wp_at_zero Go.wp_at_succ
theorem full_drop {u : List Ins} {m : Nat} (h : full (1 + m) u) : full m (u.drop (sk 1 u)) := by
 obtain ⟨p, q, h1, h2, h3⟩ := full_split h
 subst h1
 rw [full_sk h2, List.drop_left]
 exact h3
theorem full_pos {u : List Ins} {m : Nat} (h : full (m + 1) u) : 0 < u.length := by
 cases u with
 | nil => cases h
 | cons x u => simp
theorem endsN_at : ∀ {t : List Ins} {o k : Nat} {x : Ins}, t[k]? = some x → (endsN o t)[k]? = some (x, o + endN t k) := by
 intro t
 induction t with
 | nil => intro o k x h; simp at h
 | cons y t ih =>
  intro o k x h
  cases k with
  | zero =>
   simp at h
   subst h
   simp [endsN, endN, sk]
   omega
  | succ k =>
   have := ih (o := o + 1) (k := k) (x := x) (by simpa using h)
   simp only [endsN, List.getElem?_cons_succ, this, endN, List.drop_succ_cons]
   congr 2
   omega
theorem okT_ty {n : Nat} {c : UInt8} (h : isTy n c = true) : okT n c = true := by simp [okT, h]
theorem okT_i {n : Nat} : okT n 105 = true := by simp [okT, isTy]
theorem okT_cls {n a : Nat} (h : a < n) (hn : n ≤ 4) : okT n (clsT a) = true := okT_ty (by unfold clsT; exact isTy_let h hn)
theorem giveT_ok {im : Img} (hW : WfIS im) {bd : Bod} (hbd : WfBS im.classes im.sigs bd) {x : Ins} (hx : WfN im.classes im.sigs.length bd.locals.length x) : okT im.classes.length (giveT im.classes im.sigs bd.locals x) = true := by
 unfold giveT
 split
 ·simp [okT]
 split
 ·rename_i h
  have hb := hx.loc (Or.inl h)
  apply okT_ty
  rw [List.getD_eq_getElem?_getD, List.getElem?_eq_getElem hb]
  exact hbd.loc.2 _ (List.getElem_mem hb)
 split
 ·rename_i h
  exact okT_cls (hx.cls (by omega)) hW.nc
 split
 ·rename_i h
  have ha := hx.cls (by omega)
  have hb := hx.fld (by omega)
  apply okT_ty
  have hgl := List.getElem?_eq_getElem ha
  unfold nFields at hb
  unfold fieldT
  rw [hgl] at hb ⊢
  simp at hb ⊢
  rw [List.getElem?_eq_getElem hb]
  exact isTy_mono (by omega) ((hW.cls _ _ hgl).2.2.2 _ (List.getElem_mem hb))
 split
 ·rename_i h
  have hb := hx.sig h
  apply okT_ty
  unfold retT
  rw [List.getElem?_eq_getElem hb]
  exact (hW.sig _ (List.getElem_mem hb)).2
 ·exact okT_i
theorem nodeT_ok {im : Img} (hW : WfIS im) {bd : Bod} (hbd : WfBS im.classes im.sigs bd) {x : Ins} (hx : WfN im.classes im.sigs.length bd.locals.length x) {ts : List UInt8} (hl : ts.length = arity x.op) (hts : ∀ c ∈ ts, okT im.classes.length c = true) {c : UInt8} (h : nodeT im.classes im.sigs bd.locals x ts = some c) : okT im.classes.length c = true := by
 have hg : ∀ k, k < ts.length → okT im.classes.length (ts.getD k 0) = true := fun k hk => by
  rw [List.getD_eq_getElem?_getD, List.getElem?_eq_getElem hk]
  exact hts _ (List.getElem_mem hk)
 unfold nodeT at h
 split at h
 ·cases h
 split at h
 ·split at h
  ·cases h; exact okT_i
  ·cases h
 split at h
 ·rename_i h120
  split at h
  ·cases h; exact okT_cls (hx.cls (by omega)) hW.nc
  ·cases h
 split at h
 ·rename_i h44
  cases h
  exact hg 1 (by rw [hl]; unfold arity; rw [if_neg (by omega), h44]; decide)
 split at h
 ·rename_i h105
  split at h
  ·cases h
   have h3 : ts.length = 3 := by rw [hl]; unfold arity; rw [if_pos h105]
   exact joinT_ok hW.nc hW.cls (hg 1 (by omega)) (hg 2 (by omega))
  ·cases h
 split at h
 ·split at h
  ·cases h; exact okT_i
  ·cases h
 ·cases h
  exact giveT_ok hW hbd hx
theorem partsT_len {t : List Ins} {g : Nat → Option UInt8} : ∀ {n k : Nat} {ts : List UInt8}, partsT t g n k = some ts → ts.length = n := by
 intro n
 induction n with
 | zero => intro k ts h; cases h; rfl
 | succ n ih =>
  intro k ts h
  unfold partsT at h
  split at h
  ·cases h
  ·rename_i c hc
   cases hp : partsT t g n (endN t k) with
   | none => rw [hp] at h; cases h
   | some us => rw [hp] at h; simp at h; subst h; simp [ih hp]
theorem typN_ok {im : Img} (hW : WfIS im) {bd : Bod} (hbd : WfBS im.classes im.sigs bd) : ∀ {f i : Nat} {c : UInt8}, typN im.classes im.sigs bd.locals bd.code f i = some c → okT im.classes.length c = true := by
 intro f
 induction f with
 | zero => intro i c h; cases h
 | succ f ih =>
  have hp : ∀ {n k : Nat} {ts : List UInt8}, partsT bd.code (typN im.classes im.sigs bd.locals bd.code f) n k = some ts → ∀ c ∈ ts, okT im.classes.length c = true := by
   intro n
   induction n with
   | zero => intro k ts h; cases h; simp
   | succ n ihn =>
    intro k ts h
    unfold partsT at h
    split at h
    ·cases h
    ·rename_i c hc
     cases hp : partsT bd.code (typN im.classes im.sigs bd.locals bd.code f) n (endN bd.code k) with
     | none => rw [hp] at h; cases h
     | some us =>
      rw [hp] at h
      simp at h
      subst h
      intro d hd
      rcases List.mem_cons.1 hd with rfl | hd
      ·exact ih hc
      ·exact ihn hp d hd
  intro i c h
  unfold typN at h
  split at h
  ·cases h
  ·rename_i x hx
   split at h
   ·cases h
   ·rename_i ts hts
    exact nodeT_ok hW hbd (hbd.code x (List.mem_of_getElem? hx)) (partsT_len hts) (hp hts) h
def TypQ (R : Option UInt8) (en : Ending) : Prop := match R with
 | some c => en = .returned (.tuple #[.int .u8 c.toNat, .bool true])
 | none => ∃ v : Int, en = .returned (.tuple #[.int .u8 v, .bool false])
theorem askT_len {cs : List Cls} {gs : List Sig} {lo : List UInt8} {x : Ins} : (askT cs gs lo x).length ≤ 2 := by
 unfold askT
 repeat' split
 all_goals simp
structure TypI (im : Img) (bd : Bod) (F i m n ar : Nat) (us : List UInt8) (k j : Nat) : Prop where
 len : us.length + j = ar
 ok : ∀ c ∈ us, okT im.classes.length c = true
 full : full (m + j) (bd.code.drop k)
 gt : i < k
 eq : partsT bd.code (typN im.classes im.sigs bd.locals bd.code F) ar (i + 1) = (partsT bd.code (typN im.classes im.sigs bd.locals bd.code F) j k).map (us ++ ·)
theorem TypI.go {im : Img} {bd : Bod} {F i m n ar : Nat} {us : List UInt8} {k j : Nat} (h : TypI im bd F i m n ar us k j) (hn : bd.code.length = n) (hj : 0 < j) : k < n ∧ Sp.full (m + (j - 1) + 1) (bd.code.drop k) := by
 have h1 := h.full
 rw [show m + j = m + (j - 1) + 1 from by omega] at h1
 have h2 := full_pos h1
 rw [List.length_drop] at h2
 exact ⟨by omega, h1⟩
theorem TypI.no {im : Img} {bd : Bod} {F i m n ar : Nat} {us : List UInt8} {k j : Nat} (h : TypI im bd F i m n ar us k j) (hj : 0 < j) (hg : typN im.classes im.sigs bd.locals bd.code F k = none) {X : Ins} (hX : bd.code[i]? = some X) (har : arity X.op = ar) : typN im.classes im.sigs bd.locals bd.code (F + 1) i = none := by
 have h1 := h.eq
 obtain ⟨j, rfl⟩ : ∃ q, j = q + 1 := ⟨j - 1, by omega⟩
 have h2 : partsT bd.code (typN im.classes im.sigs bd.locals bd.code F) (j + 1) k = none := by simp [partsT, hg]
 rw [h2] at h1
 simp only [typN, hX, har, h1, Option.map_none]
theorem TypI.yes {im : Img} {bd : Bod} {F i m n ar : Nat} {us : List UInt8} {k j : Nat} (hW : WfIS im) (hbd : WfBS im.classes im.sigs bd) (h : TypI im bd F i m n ar us k j) (hn : bd.code.length = n) (hj : 0 < j) {c : UInt8} (hg : typN im.classes im.sigs bd.locals bd.code F k = some c) : TypI im bd F i m n ar (us ++ [c]) (endN bd.code k) (j - 1) := by
 have h1 := h.eq
 obtain ⟨j, rfl⟩ : ∃ q, j = q + 1 := ⟨j - 1, by omega⟩
 refine ⟨by have := h.len; simp; omega, fun d hd => ?_, ?_, ?_, ?_⟩
 ·rcases List.mem_append.1 hd with hd | hd
  ·exact h.ok d hd
  ·simp at hd
   subst hd
   exact typN_ok hW hbd hg
 ·have h2 := full_drop (u := bd.code.drop k) (m := m + j) (by have := h.full; rw [show m + (j + 1) = 1 + (m + j) from by omega] at this; exact this)
  rw [List.drop_drop] at h2
  exact h2
 ·have := h.gt
  unfold endN
  omega
 ·rw [h1]
  simp only [partsT, hg, Nat.add_sub_cancel]
  cases partsT bd.code (typN im.classes im.sigs bd.locals bd.code F) j (endN bd.code k) <;> simp
theorem TypI.fin {im : Img} {bd : Bod} {F i m n ar : Nat} {us : List UInt8} {k : Nat} (h : TypI im bd F i m n ar us k 0) {X : Ins} (hX : bd.code[i]? = some X) (har : arity X.op = ar) : typN im.classes im.sigs bd.locals bd.code (F + 1) i = nodeT im.classes im.sigs bd.locals X us := by
 have h1 := h.eq
 simp only [partsT, Option.map_some, List.append_nil] at h1
 simp only [typN, hX, har, h1]
theorem typ_any (bi : Nat) (im : Img) (bd : Bod) (ak : Option Addr) (n capk : Nat) (hn : bd.code.length = n) (hW : WfIS im) (hbd : WfBS im.classes im.sigs bd) : ∀ (F i m : Nat) (w : World), i < n → n - i ≤ F → full (m + 1) (bd.code.drop i) → ImgS w bi im → w.ownsRow 0 147 5 (.slice ak n capk) n (ndCells (endsN 0 bd.code)) →
  Calls Tryz.prog 72 #[.pointer (some ⟨bi, 0, none⟩), .agg #[.int .i64 bd.cls, .int .i64 bd.meth, .string ⟨bd.locals.toArray⟩, .slice none 0 0, .slice ak n capk], .int .i64 i] w fun en w' => TypQ (typN im.classes im.sigs bd.locals bd.code F i) en ∧ But (fun _ => False) w w' := by
 intro F
 induction F with
 | zero => intro i m w h1 h2; omega
 | succ F ih =>
  intro i m w hin hiF hfull hI hO
  have IH := hid ih
  clear ih
  have hlen := hbd.len
  rw [hn] at hlen
  have HN : Hid (bd.code.length = n) := hn
  have HFU := hid hfull
  clear hn hfull
  obtain ⟨R, hRR⟩ : ∃ R, typN im.classes im.sigs bd.locals bd.code (F + 1) i = R := ⟨_, rfl⟩
  rw [hRR]
  have HRR := hid hRR
  clear hRR
  have hlt' : i < bd.code.length := by rw [HN.out]; exact hin
  obtain ⟨X, hX⟩ : ∃ X, bd.code[i] = X := ⟨_, rfl⟩
  have hx? : bd.code[i]? = some X := by rw [List.getElem?_eq_getElem hlt', hX]
  have hx := endsN_at (o := 0) hx?
  have HX := hid hx?
  obtain ⟨g, rfl, hg1, hg2, hcell⟩ := owns_two hO (by omega)
  obtain ⟨e, he⟩ : ∃ e, 0 + endN bd.code i = e := ⟨_, rfl⟩
  rw [he] at hx
  have q0 : w.cell? ⟨g, i * 5, none⟩ = some (.int .u8 X.op.toNat) := hcell _ _ (ndCells_at (k := 0) hx (by omega))
  have q1 : w.cell? ⟨g, i * 5 + 1, none⟩ = some (.int .i64 X.a) := hcell _ _ (ndCells_at (k := 1) hx (by omega))
  have q2 : w.cell? ⟨g, i * 5 + 2, none⟩ = some (.int .i64 X.b) := hcell _ _ (ndCells_at (k := 2) hx (by omega))
  have q3 : w.cell? ⟨g, i * 5 + 3, none⟩ = some (.int .i64 X.pos) := hcell _ _ (ndCells_at (k := 3) hx (by omega))
  have q4 : w.cell? ⟨g, i * 5 + 4, none⟩ = some (.int .i64 e) := hcell _ _ (ndCells_at (k := 4) hx (by omega))
  have hwx : WfN im.classes im.sigs.length bd.locals.length X := by rw [← hX]; exact hbd.code _ (List.getElem_mem hlt')
  clear hcell hx hx? hX he hlt'
  have hinI : (i : Int) < (n : Int) := by omega
  go_enter Tryz.func72, Tryz.ntmps72
  go_wp2_with fail
  have hB0 : But (fun _ => False) w ((w.alloc (.cells #[.int .i64 bd.cls, .int .i64 bd.meth, .string ⟨bd.locals.toArray⟩, .slice none 0 0, .slice (some ⟨g, 0, none⟩) n capk] 52)).alloc (.cells #[.int .u8 X.op.toNat, .int .i64 X.a, .int .i64 X.b, .int .i64 X.pos, .int .i64 e] 147)) := (But.alloc _ _ _).trans (But.alloc _ _ _)
  have hg0 : ((w.alloc (.cells #[.int .i64 bd.cls, .int .i64 bd.meth, .string ⟨bd.locals.toArray⟩, .slice none 0 0, .slice (some ⟨g, 0, none⟩) n capk] 52)).alloc (.cells #[.int .u8 X.op.toNat, .int .i64 X.a, .int .i64 X.b, .int .i64 X.pos, .int .i64 e] 147)).heap[w.heap.size]? = some (.cells #[.int .i64 bd.cls, .int .i64 bd.meth, .string ⟨bd.locals.toArray⟩, .slice none 0 0, .slice (some ⟨g, 0, none⟩) n capk] 52) := ((But.alloc (fun _ => False) (w.alloc (.cells #[.int .i64 bd.cls, .int .i64 bd.meth, .string ⟨bd.locals.toArray⟩, .slice none 0 0, .slice (some ⟨g, 0, none⟩) n capk] 52)) _).block _ (by simp) (fun h => h)).trans (heap_alloc_new w _)
  have hn0 : ((w.alloc (.cells #[.int .i64 bd.cls, .int .i64 bd.meth, .string ⟨bd.locals.toArray⟩, .slice none 0 0, .slice (some ⟨g, 0, none⟩) n capk] 52)).alloc (.cells #[.int .u8 X.op.toNat, .int .i64 X.a, .int .i64 X.b, .int .i64 X.pos, .int .i64 e] 147)).heap[w.heap.size + 1]? = some (.cells #[.int .u8 X.op.toNat, .int .i64 X.a, .int .i64 X.b, .int .i64 X.pos, .int .i64 e] 147) := heap_alloc_at (by simp) _
  generalize ((w.alloc (.cells #[.int .i64 bd.cls, .int .i64 bd.meth, .string ⟨bd.locals.toArray⟩, .slice none 0 0, .slice (some ⟨g, 0, none⟩) n capk] 52)).alloc (.cells #[.int .u8 X.op.toNat, .int .i64 X.a, .int .i64 X.b, .int .i64 X.pos, .int .i64 e] 147)) = w0 at *
  clear q0 q1 q2 q3 q4
  refine (parts_any X.op w0).mono ?_
  rintro en wx ⟨rfl, hwx'⟩
  rw [hwx']
  clear hwx' wx
  obtain ⟨ar, har⟩ : ∃ ar, arity X.op = ar := ⟨_, rfl⟩
  have har3 : ar ≤ 3 := by rw [← har]; unfold arity; split; omega; split; omega; split <;> omega
  rw [har]
  have HAR := hid har
  have HST : Hid (TypI im bd F i m n ar [] (i + 1) ar) := by
   refine ⟨by simp, fun c h => by simp at h, ?_, by omega, by simp⟩
   have h1 := HFU.out
   have h2 := HX.out
   obtain ⟨hl, hg⟩ := List.getElem?_eq_some_iff.1 h2
   rw [List.drop_eq_getElem_cons hl, hg] at h1
   have h3 : full (m + arity X.op) (bd.code.drop (i + 1)) := h1
   rw [har] at h3
   exact h3
  clear har
  go_wp2_with fail
  go_loopg [9, 10, 11] ar (fun mm ts ks js wr => ∃ (us : List UInt8) (k j : Nat), ts = .string ⟨us.toArray⟩ ∧ ks = .int .i64 k ∧ js = .int .i64 j ∧ us.length ≤ 3 ∧ k ≤ n ∧ j ≤ mm ∧ mm ≤ j ∧ j ≤ ar ∧ But (fun _ => False) w0 wr ∧ Hid (TypI im bd F i m n ar us k j))
  case atStart => exact ⟨[], i + 1, ar, rfl, by simp, rfl, by simp, by omega, by omega, by omega, by omega, But.refl _ _, HST⟩
  case round =>
   obtain ⟨us, k, j, rfl, rfl, rfl, hu3, hkn, hj1, hj2, hj3, hBr, HI⟩ := hrel
   have hgr := (hBr.block _ (lt_of_block hg0) (fun h => h)).trans hg0
   have hnr := (hBr.block _ (lt_of_block hn0) (fun h => h)).trans hn0
   have g0 : wr.cell? ⟨w.heap.size, 0, none⟩ = some (.int .i64 bd.cls) := by rw [cell_of_row wr _ 0 _ _ (0, 0) hgr]; rfl
   have g1 : wr.cell? ⟨w.heap.size, 1, none⟩ = some (.int .i64 bd.meth) := by rw [cell_of_row wr _ 1 _ _ (0, 0) hgr]; rfl
   have g2 : wr.cell? ⟨w.heap.size, 2, none⟩ = some (.string ⟨bd.locals.toArray⟩) := by rw [cell_of_row wr _ 2 _ _ (0, 0) hgr]; rfl
   have g3 : wr.cell? ⟨w.heap.size, 3, none⟩ = some (.slice none 0 0) := by rw [cell_of_row wr _ 3 _ _ (0, 0) hgr]; rfl
   have g4 : wr.cell? ⟨w.heap.size, 4, none⟩ = some (.slice (some ⟨g, 0, none⟩) n capk) := by rw [cell_of_row wr _ 4 _ _ (0, 0) hgr]; rfl
   have hBw : But (fun _ => False) w wr := hB0.trans hBr
   have hgl := lt_of_block hgr
   have hnl := lt_of_block hnr
   by_cases hlt : 0 < j
   ·have hjI : (0 : Int) < (j : Int) := by omega
    obtain ⟨hk, hfk⟩ := HI.out.go HN.out hlt
    have hik := HI.out.4
    have HC := hid (IH.out k (m + (j - 1)) wr hk (by omega) hfk (hI.but hBw) (owns_but hO hBw (fun _ _ h => h)))
    have HFK := hid hfk
    clear hfk
    go_wp2_with fail
    refine HC.out.mono ?_
    rintro en w7 ⟨hq7, hB7⟩
    cases hg7 : typN im.classes im.sigs bd.locals bd.code F k with
    | none =>
     rw [hg7] at hq7
     obtain ⟨v, rfl⟩ := hq7
     have hres : R = none := by rw [← HRR.out]; exact HI.out.no hlt hg7 HX.out HAR.out
     subst hres
     clear HC g0 g1 g2 g3 g4 hg7
     go_wp2_with fail
     go_ret2
     exact ⟨⟨0, rfl⟩, hBw.trans hB7⟩
    | some c =>
     rw [hg7] at hq7
     have hq7 : en = .returned (.tuple #[.int .u8 c.toNat, .bool true]) := hq7
     subst hq7
     have HI7 := hid (HI.out.yes hW hbd HN.out hlt hg7)
     obtain ⟨Y, hY⟩ : ∃ Y, bd.code[k]? = some Y := ⟨_, List.getElem?_eq_getElem (by rw [HN.out]; exact hk)⟩
     have hy := endsN_at (o := 0) hY
     rw [Nat.zero_add] at hy
     have hOr := owns_but hO (hBw.trans hB7) (fun _ _ h => h)
     obtain ⟨g', hgg, hg1', hg2', hcell⟩ := owns_two hOr (by omega)
     have hgg2 : g = g' := by injection hgg with h; injection h
     subst hgg2
     have q4 : w7.cell? ⟨g, k * 5 + 4, none⟩ = some (.int .i64 (endN bd.code k)) := hcell _ _ (ndCells_at (k := 4) hy (by omega))
     have hg7r := (hB7.block _ hgl (fun h => h)).trans hgr
     have g7 : w7.cell? ⟨w.heap.size, 4, none⟩ = some (.slice (some ⟨g, 0, none⟩) n capk) := by rw [cell_of_row w7 _ 4 _ _ (0, 0) hg7r]; rfl
     have hgl7 := lt_of_block hg7r
     have hkI : (k : Int) < (n : Int) := by omega
     have hle7 : endN bd.code k ≤ n := by rw [← HN.out]; unfold endN; have := sk_le (m := 1) (t := bd.code.drop k); rw [List.length_drop] at this; have := HN.out; omega
     clear HC g0 g1 g2 g3 g4 hg7 hcell hy hY hgg
     obtain ⟨k7, hk7⟩ : ∃ k7, endN bd.code k = k7 := ⟨_, rfl⟩
     rw [hk7] at q4 HI7 hle7
     clear hk7
     have hcv := conv1 c
     have hsz : (⟨us.toArray⟩ : ByteArray).size + (⟨#[c]⟩ : ByteArray).size ≤ 200000 := by show us.toArray.size + 1 ≤ 200000; simp; omega
     have hul := HI7.out.len
     rw [List.length_append, List.length_singleton] at hul
     go_wp2_with fail
     go_roundg (j - 1)
     case measure => omega
     case rel => exact ⟨us ++ [c], k7, j - 1, congrArg Value.string (bytes_snoc _ _), rfl, by simp; omega, by simp; omega, hle7, by omega, by omega, by omega, (hBr.trans hB7).trans (But.alloc _ _ _), HI7⟩
   ·have hj0 : j = 0 := by omega
    subst hj0
    have n0 : wr.cell? ⟨w.heap.size + 1, 0, none⟩ = some (.int .u8 X.op.toNat) := by rw [cell_of_row wr _ 0 _ _ (0, 0) hnr]; rfl
    have n1 : wr.cell? ⟨w.heap.size + 1, 1, none⟩ = some (.int .i64 X.a) := by rw [cell_of_row wr _ 1 _ _ (0, 0) hnr]; rfl
    have n2 : wr.cell? ⟨w.heap.size + 1, 2, none⟩ = some (.int .i64 X.b) := by rw [cell_of_row wr _ 2 _ _ (0, 0) hnr]; rfl
    have n3 : wr.cell? ⟨w.heap.size + 1, 3, none⟩ = some (.int .i64 X.pos) := by rw [cell_of_row wr _ 3 _ _ (0, 0) hnr]; rfl
    have n4 : wr.cell? ⟨w.heap.size + 1, 4, none⟩ = some (.int .i64 e) := by rw [cell_of_row wr _ 4 _ _ (0, 0) hnr]; rfl
    have HFN := hid (HRR.out.symm.trans (HI.out.fin HX.out HAR.out))
    have hul := HI.out.len
    have hok := hid HI.out.ok
    clear HI HRR
    go_wp2_with fail
    refine (asked_any bi im bd _ n capk X e wr (hI.but hBw) hW hbd hwx).mono ?_
    rintro en w8 ⟨rfl, hB8⟩
    have hB9 := hBw.trans hB8
    have hgr8 := (hB8.block _ hgl (fun h => h)).trans hgr
    have hnr8 := (hB8.block _ hnl (fun h => h)).trans hnr
    have hA2 : (askT im.classes im.sigs bd.locals X).length ≤ 2 := askT_len
    have HFN2 := HFN.out
    unfold nodeT at HFN2
    obtain ⟨A, hA⟩ : ∃ A, askT im.classes im.sigs bd.locals X = A := ⟨_, rfl⟩
    have hnA : A ≠ [] → X.op.toNat ≠ 101 ∧ X.op.toNat ≠ 120 ∧ X.op.toNat ≠ 44 ∧ X.op.toNat ≠ 105 ∧ X.op.toNat ≠ 111 := fun h => by
     refine ⟨fun h' => h ?_, fun h' => h ?_, fun h' => h ?_, fun h' => h ?_, fun h' => h ?_⟩
     all_goals (rw [← hA]; simp [askT, h', arith])
    rw [hA] at HFN2 hA2 ⊢
    clear hA HFN n0 n1 n2 n3 n4 g0 g1 g2 g3 g4
    have hgl8 := lt_of_block hgr8
    have hnl8 := lt_of_block hnr8
    by_cases hAe : A = []
    ·rw [if_neg (fun h => h.1 hAe)] at HFN2
     subst hAe
     clear hnA
     have n0 : w8.cell? ⟨w.heap.size + 1, 0, none⟩ = some (.int .u8 X.op.toNat) := by rw [cell_of_row w8 _ 0 _ _ (0, 0) hnr8]; rfl
     have n1 : w8.cell? ⟨w.heap.size + 1, 1, none⟩ = some (.int .i64 X.a) := by rw [cell_of_row w8 _ 1 _ _ (0, 0) hnr8]; rfl
     by_cases h101 : X.op.toNat = 101
     ·rw [if_pos h101] at HFN2
      have t101 : ((X.op.toNat : Int) == 101) = true := by rw [beq_iff_eq]; omega
      have har : ar = 2 := by rw [← HAR.out]; unfold arity; simp [h101]
      have i0 : 0 < us.length := by omega
      obtain ⟨P, hP⟩ : ∃ P, us.getD 0 0 = P := ⟨_, rfl⟩
      have k0 : ∀ h, (⟨us.toArray⟩ : ByteArray)[0]'h = P := fun h => by rw [← hP, getD_lt us _ i0]; exact lget us _ i0 _
      have j0 : (0 : Int) < (us.length : Int) := by omega
      have o0 : okT im.classes.length P = true := by rw [← hP, getD_lt us _ i0]; exact hok.out _ (List.getElem_mem i0)
      have i1 : 1 < us.length := by omega
      obtain ⟨Q, hQ⟩ : ∃ Q, us.getD 1 0 = Q := ⟨_, rfl⟩
      have k1 : ∀ h, (⟨us.toArray⟩ : ByteArray)[1]'h = Q := fun h => by rw [← hQ, getD_lt us _ i1]; exact lget us _ i1 _
      have j1 : (1 : Int) < (us.length : Int) := by omega
      have o1 : okT im.classes.length Q = true := by rw [← hQ, getD_lt us _ i1]; exact hok.out _ (List.getElem_mem i1)
      rw [hP, hQ] at HFN2
      clear hP hQ
      clear h101 hul har HAR
      cases hp : isR P with
      | false =>
       rw [if_neg (by rw [hp]; simp)] at HFN2
       subst HFN2
       go_wp2_with fail
       refine (isRef_any P _).mono ?_
       rintro en wx ⟨rfl, hwx⟩
       rw [hwx, hp]
       clear hwx wx hp
       go_wp2_with fail
       go_ret2
       exact ⟨⟨105, rfl⟩, hB9⟩
      | true =>
       have HF := hid HFN2
       clear HFN2
       go_wp2_with fail
       refine (isRef_any P _).mono ?_
       rintro en wx ⟨rfl, hwx⟩
       rw [hwx, hp]
       clear hwx wx
       go_wp2_with fail
       refine (isRef_any Q _).mono ?_
       rintro en wx ⟨rfl, hwx⟩
       rw [hwx]
       clear hwx wx
       have HF2 := HF.out
       rw [hp] at HF2
       clear HF
       cases hq : isR Q with
       | false =>
        rw [if_neg (by rw [hq]; simp)] at HF2
        subst HF2
        clear hp hq
        go_wp2_with fail
        go_ret2
        exact ⟨⟨105, rfl⟩, hB9⟩
       | true =>
        rw [if_pos ⟨rfl, hq⟩] at HF2
        subst HF2
        clear hp hq
        go_wp2_with fail
        go_ret2
        exact ⟨rfl, hB9⟩
     rw [if_neg h101] at HFN2
     by_cases h120 : X.op.toNat = 120
     ·rw [if_pos h120] at HFN2
      have t101 : ((X.op.toNat : Int) == 101) = false := by rw [beq_eq_false_iff_ne]; omega
      have t120 : ((X.op.toNat : Int) == 120) = true := by rw [beq_iff_eq]; omega
      have har : ar = 1 := by rw [← HAR.out]; unfold arity; simp [h120]
      have hxa : X.a < im.classes.length := hwx.cls (by omega)
      have i0 : 0 < us.length := by omega
      obtain ⟨P, hP⟩ : ∃ P, us.getD 0 0 = P := ⟨_, rfl⟩
      have k0 : ∀ h, (⟨us.toArray⟩ : ByteArray)[0]'h = P := fun h => by rw [← hP, getD_lt us _ i0]; exact lget us _ i0 _
      have j0 : (0 : Int) < (us.length : Int) := by omega
      have o0 : okT im.classes.length P = true := by rw [← hP, getD_lt us _ i0]; exact hok.out _ (List.getElem_mem i0)
      rw [hP] at HFN2
      clear hP
      clear h120 hul har HAR
      have hxa4 : X.a < 4 := by have := hW.nc; omega
      have hca := clsT_nat hxa4
      obtain ⟨C, hC⟩ : ∃ C, clsT X.a = C := ⟨_, rfl⟩
      rw [hC] at hca HFN2
      clear hC hxa4 hxa
      have hCl := C.toNat_lt
      have hw1 := wrapI (C.toNat : Int) (by omega) (by omega)
      have hw2 : IntKind.wrap .u8 (C.toNat : Int) = (C.toNat : Int) := by rw [show IntKind.wrap .u8 (C.toNat : Int) = (C.toNat : Int) % 256 from rfl]; omega
      go_wp2_with fail
      refine wpTx_begin (But (fun _ => False) w8) 8 (by kernel_rfl) ?_
      have hS0 : But (fun _ => False) w8 w8.drew := But.drew _ _
      iterate 6 (refine wpTx_take (v := ?_) rfl (by kernel_rfl) (fun _ _ _ h => h) rfl hS0 ?_ ?_; rotate_left; (focus (intro wS h; have q0 := ((h.cell (p := ⟨w.heap.size + 1, 1, none⟩) hnl8 (fun h => h)).trans n1); clear h; go_simp; try rfl)); dsimp only [Act.put]; try simp only [puts])
      refine wpTx_step rfl (by kernel_rfl) ?_
      intro KS hKS
      go_simp
      refine (isRef_any P _).mono ?_
      rintro en wx ⟨rfl, hwx⟩
      rw [hwx]
      clear hwx wx
      refine hKS.out _ _ (fun _ => hS0) ?_
      clear hKS KS
      refine wpTx_step rfl (by kernel_rfl) ?_
      intro KS hKS
      go_simp
      refine hKS.out _ _ (fun _ => hS0) ?_
      clear hKS KS
      refine wpTx_step rfl (by kernel_rfl) ?_
      intro KS hKS
      go_simp
      refine hKS.out _ _ (fun h => absurd h (by decide)) ?_
      clear hKS KS
      refine wpTx_done rfl (by kernel_rfl) ?_
      have hBd := hB9.trans hS0
      generalize w8.drew = wd at *
      cases hp : isR P with
      | false =>
       rw [if_neg (by rw [hp]; simp)] at HFN2
       subst HFN2
       clear hp
       go_wp2_with fail
       go_ret2
       exact ⟨⟨_, rfl⟩, hBd⟩
      | true =>
       rw [if_pos hp] at HFN2
       subst HFN2
       clear hp
       go_wp2_with fail
       go_ret2
       exact ⟨rfl, hBd⟩
     rw [if_neg h120] at HFN2
     by_cases h44 : X.op.toNat = 44
     ·rw [if_pos h44] at HFN2
      have t101 : ((X.op.toNat : Int) == 101) = false := by rw [beq_eq_false_iff_ne]; omega
      have t120 : ((X.op.toNat : Int) == 120) = false := by rw [beq_eq_false_iff_ne]; omega
      have t44 : ((X.op.toNat : Int) == 44) = true := by rw [beq_iff_eq]; omega
      have har : ar = 2 := by rw [← HAR.out]; unfold arity; simp [h44]
      have i1 : 1 < us.length := by omega
      obtain ⟨Q, hQ⟩ : ∃ Q, us.getD 1 0 = Q := ⟨_, rfl⟩
      have k1 : ∀ h, (⟨us.toArray⟩ : ByteArray)[1]'h = Q := fun h => by rw [← hQ, getD_lt us _ i1]; exact lget us _ i1 _
      have j1 : (1 : Int) < (us.length : Int) := by omega
      have o1 : okT im.classes.length Q = true := by rw [← hQ, getD_lt us _ i1]; exact hok.out _ (List.getElem_mem i1)
      rw [hQ] at HFN2
      clear hQ
      clear h44 hul har HAR
      subst HFN2
      go_wp2_with fail
      go_ret2
      exact ⟨rfl, hB9⟩
     rw [if_neg h44] at HFN2
     by_cases h105 : X.op.toNat = 105
     ·rw [if_pos h105] at HFN2
      have t101 : ((X.op.toNat : Int) == 101) = false := by rw [beq_eq_false_iff_ne]; omega
      have t120 : ((X.op.toNat : Int) == 120) = false := by rw [beq_eq_false_iff_ne]; omega
      have t44 : ((X.op.toNat : Int) == 44) = false := by rw [beq_eq_false_iff_ne]; omega
      have t105 : ((X.op.toNat : Int) == 105) = true := by rw [beq_iff_eq]; omega
      have har : ar = 3 := by rw [← HAR.out]; unfold arity; simp [h105]
      have i0 : 0 < us.length := by omega
      obtain ⟨P, hP⟩ : ∃ P, us.getD 0 0 = P := ⟨_, rfl⟩
      have k0 : ∀ h, (⟨us.toArray⟩ : ByteArray)[0]'h = P := fun h => by rw [← hP, getD_lt us _ i0]; exact lget us _ i0 _
      have j0 : (0 : Int) < (us.length : Int) := by omega
      have o0 : okT im.classes.length P = true := by rw [← hP, getD_lt us _ i0]; exact hok.out _ (List.getElem_mem i0)
      have i1 : 1 < us.length := by omega
      obtain ⟨Q, hQ⟩ : ∃ Q, us.getD 1 0 = Q := ⟨_, rfl⟩
      have k1 : ∀ h, (⟨us.toArray⟩ : ByteArray)[1]'h = Q := fun h => by rw [← hQ, getD_lt us _ i1]; exact lget us _ i1 _
      have j1 : (1 : Int) < (us.length : Int) := by omega
      have o1 : okT im.classes.length Q = true := by rw [← hQ, getD_lt us _ i1]; exact hok.out _ (List.getElem_mem i1)
      have i2 : 2 < us.length := by omega
      obtain ⟨S, hS⟩ : ∃ S, us.getD 2 0 = S := ⟨_, rfl⟩
      have k2 : ∀ h, (⟨us.toArray⟩ : ByteArray)[2]'h = S := fun h => by rw [← hS, getD_lt us _ i2]; exact lget us _ i2 _
      have j2 : (2 : Int) < (us.length : Int) := by omega
      have o2 : okT im.classes.length S = true := by rw [← hS, getD_lt us _ i2]; exact hok.out _ (List.getElem_mem i2)
      rw [hP, hQ, hS] at HFN2
      clear hP hQ hS
      clear h105 hul har HAR
      go_wp2_with fail
      refine wpTx_begin (But (fun _ => False) w8) 6 (by kernel_rfl) ?_
      have hS0 : But (fun _ => False) w8 w8.drew := But.drew _ _
      iterate 5 (refine wpTx_take (v := ?_) rfl (by kernel_rfl) (fun _ _ _ h => h) rfl hS0 ?_ ?_; rotate_left; (focus (intro wS h; clear h; go_simp; try rfl)); dsimp only [Act.put]; try simp only [puts])
      refine wpTx_step rfl (by kernel_rfl) ?_
      intro KS hKS
      go_simp
      have hBd := hB9.trans hS0
      refine (join_any bi im.classes Q S _ (hI.but hBd).cls hW.cls hW.nc o1 o2).mono ?_
      rintro en wx ⟨rfl, hwx⟩
      rw [hwx]
      clear hwx wx
      refine hKS.out _ _ (fun _ => hS0) ?_
      clear hKS KS
      refine wpTx_step rfl (by kernel_rfl) ?_
      intro KS hKS
      go_simp
      refine hKS.out _ _ (fun h => absurd h (by decide)) ?_
      clear hKS KS
      refine wpTx_done rfl (by kernel_rfl) ?_
      generalize joinT im.classes Q S = J at *
      generalize w8.drew = wd at *
      by_cases hp : P.toNat = 105
      ·have u1 : ((P.toNat : Int) == 105) = true := by rw [beq_iff_eq]; omega
       by_cases hj : J.toNat = 45
       ·have u2 : ((J.toNat : Int) != 45) = false := by rw [bne_eq_false_iff_eq]; omega
        rw [if_neg (fun h => h.2 hj)] at HFN2
        subst HFN2
        clear hp hj
        go_wp2_with fail
        go_ret2
        exact ⟨⟨_, rfl⟩, hBd⟩
       ·have u2 : ((J.toNat : Int) != 45) = true := by rw [bne_iff_ne]; omega
        rw [if_pos ⟨hp, hj⟩] at HFN2
        subst HFN2
        clear hp hj
        go_wp2_with fail
        go_ret2
        exact ⟨rfl, hBd⟩
      ·have u1 : ((P.toNat : Int) == 105) = false := by rw [beq_eq_false_iff_ne]; omega
       rw [if_neg (fun h => hp h.1)] at HFN2
       subst HFN2
       clear hp
       go_wp2_with fail
       go_ret2
       exact ⟨⟨_, rfl⟩, hBd⟩
     rw [if_neg h105] at HFN2
     by_cases h111 : X.op.toNat = 111
     ·rw [if_pos h111] at HFN2
      have t101 : ((X.op.toNat : Int) == 101) = false := by rw [beq_eq_false_iff_ne]; omega
      have t120 : ((X.op.toNat : Int) == 120) = false := by rw [beq_eq_false_iff_ne]; omega
      have t44 : ((X.op.toNat : Int) == 44) = false := by rw [beq_eq_false_iff_ne]; omega
      have t105 : ((X.op.toNat : Int) == 105) = false := by rw [beq_eq_false_iff_ne]; omega
      have t111 : ((X.op.toNat : Int) == 111) = true := by rw [beq_iff_eq]; omega
      have har : ar = 2 := by rw [← HAR.out]; unfold arity; simp [h111]
      have i0 : 0 < us.length := by omega
      obtain ⟨P, hP⟩ : ∃ P, us.getD 0 0 = P := ⟨_, rfl⟩
      have k0 : ∀ h, (⟨us.toArray⟩ : ByteArray)[0]'h = P := fun h => by rw [← hP, getD_lt us _ i0]; exact lget us _ i0 _
      have j0 : (0 : Int) < (us.length : Int) := by omega
      have o0 : okT im.classes.length P = true := by rw [← hP, getD_lt us _ i0]; exact hok.out _ (List.getElem_mem i0)
      rw [hP] at HFN2
      clear hP
      clear h111 hul har HAR
      go_wp2_with fail
      refine wpTx_begin (But (fun _ => False) w8) 4 (by kernel_rfl) ?_
      have hS0 : But (fun _ => False) w8 w8.drew := But.drew _ _
      have hBd := hB9.trans hS0
      iterate 3 (refine wpTx_take (v := ?_) rfl (by kernel_rfl) (fun _ _ _ h => h) rfl hS0 ?_ ?_; rotate_left; (focus (intro wS h; clear h; go_simp; try rfl)); dsimp only [Act.put]; try simp only [puts])
      refine wpTx_step rfl (by kernel_rfl) ?_
      intro KS hKS
      go_simp
      refine hKS.out _ _ (fun _ => hS0) ?_
      clear hKS KS
      refine wpTx_step rfl (by kernel_rfl) ?_
      intro KS hKS
      go_simp
      refine hKS.out _ _ (fun h => absurd h (by decide)) ?_
      clear hKS KS
      refine wpTx_done rfl (by kernel_rfl) ?_
      generalize w8.drew = wd at *
      by_cases hp : P.toNat = 105
      ·have u1 : ((P.toNat : Int) == 105) = true := by rw [beq_iff_eq]; omega
       rw [if_pos hp] at HFN2
       subst HFN2
       clear hp
       rw [u1]
       go_wp2_with fail
       go_ret2
       exact ⟨rfl, hBd⟩
      ·have u1 : ((P.toNat : Int) == 105) = false := by rw [beq_eq_false_iff_ne]; omega
       rw [if_neg hp] at HFN2
       subst HFN2
       clear hp
       rw [u1]
       go_wp2_with fail
       go_ret2
       exact ⟨⟨105, rfl⟩, hBd⟩
     rw [if_neg h111] at HFN2
     subst HFN2
     clear n0 n1
     have g0 : w8.cell? ⟨w.heap.size, 0, none⟩ = some (.int .i64 bd.cls) := by rw [cell_of_row w8 _ 0 _ _ (0, 0) hgr8]; rfl
     have g1 : w8.cell? ⟨w.heap.size, 1, none⟩ = some (.int .i64 bd.meth) := by rw [cell_of_row w8 _ 1 _ _ (0, 0) hgr8]; rfl
     have g2 : w8.cell? ⟨w.heap.size, 2, none⟩ = some (.string ⟨bd.locals.toArray⟩) := by rw [cell_of_row w8 _ 2 _ _ (0, 0) hgr8]; rfl
     have g3 : w8.cell? ⟨w.heap.size, 3, none⟩ = some (.slice none 0 0) := by rw [cell_of_row w8 _ 3 _ _ (0, 0) hgr8]; rfl
     have g4 : w8.cell? ⟨w.heap.size, 4, none⟩ = some (.slice (some ⟨g, 0, none⟩) n capk) := by rw [cell_of_row w8 _ 4 _ _ (0, 0) hgr8]; rfl
     have n0 : w8.cell? ⟨w.heap.size + 1, 0, none⟩ = some (.int .u8 X.op.toNat) := by rw [cell_of_row w8 _ 0 _ _ (0, 0) hnr8]; rfl
     have n1 : w8.cell? ⟨w.heap.size + 1, 1, none⟩ = some (.int .i64 X.a) := by rw [cell_of_row w8 _ 1 _ _ (0, 0) hnr8]; rfl
     have n2 : w8.cell? ⟨w.heap.size + 1, 2, none⟩ = some (.int .i64 X.b) := by rw [cell_of_row w8 _ 2 _ _ (0, 0) hnr8]; rfl
     have n3 : w8.cell? ⟨w.heap.size + 1, 3, none⟩ = some (.int .i64 X.pos) := by rw [cell_of_row w8 _ 3 _ _ (0, 0) hnr8]; rfl
     have n4 : w8.cell? ⟨w.heap.size + 1, 4, none⟩ = some (.int .i64 e) := by rw [cell_of_row w8 _ 4 _ _ (0, 0) hnr8]; rfl
     have t101 : ((X.op.toNat : Int) == 101) = false := by rw [beq_eq_false_iff_ne]; omega
     have t120 : ((X.op.toNat : Int) == 120) = false := by rw [beq_eq_false_iff_ne]; omega
     have t44 : ((X.op.toNat : Int) == 44) = false := by rw [beq_eq_false_iff_ne]; omega
     have t105 : ((X.op.toNat : Int) == 105) = false := by rw [beq_eq_false_iff_ne]; omega
     have t111 : ((X.op.toNat : Int) == 111) = false := by rw [beq_eq_false_iff_ne]; omega
     clear h101 h120 h44 h105 h111
     go_wp2_with fail
     refine (gives_any bi im bd _ n capk X e w8 (hI.but hB9) hW hbd hwx).mono ?_
     rintro en w9 ⟨rfl, hB10⟩
     clear g0 g1 g2 g3 g4 n0 n1 n2 n3 n4
     go_wp2_with fail
     go_ret2
     exact ⟨rfl, hB9.trans hB10⟩
    ·obtain ⟨h101, h120, h44, h105, h111⟩ := hnA hAe
     have hA0 : (0 : Int) < (A.length : Int) := by cases A with | nil => exact absurd rfl hAe | cons _ _ => simp
     clear hnA
     go_wp2_with fail
     refine (fits_any bi im.classes us A w8 (hI.but hB9).cls hW.cls hW.nc hok.out (by omega) (by omega)).mono ?_
     rintro en w10 ⟨rfl, hBf⟩
     cases hf : fitsT im.classes us A with
     | false =>
      rw [if_pos ⟨hAe, hf⟩] at HFN2
      subst HFN2
      clear hf hAe h101 h120 h44 h105 h111
      go_wp2_with fail
      go_ret2
      exact ⟨⟨0, rfl⟩, hB9.trans hBf⟩
     | true =>
      rw [if_neg (fun h => by rw [hf] at h; cases h.2), if_neg h101, if_neg h120, if_neg h44, if_neg h105, if_neg h111] at HFN2
      subst HFN2
      clear hf hAe
      have hB11 := hB9.trans hBf
      have hgr9 := (hBf.block _ hgl8 (fun h => h)).trans hgr8
      have hnr9 := (hBf.block _ hnl8 (fun h => h)).trans hnr8
      have hgl9 := lt_of_block hgr9
      have hnl9 := lt_of_block hnr9
      have g0 : w10.cell? ⟨w.heap.size, 0, none⟩ = some (.int .i64 bd.cls) := by rw [cell_of_row w10 _ 0 _ _ (0, 0) hgr9]; rfl
      have g1 : w10.cell? ⟨w.heap.size, 1, none⟩ = some (.int .i64 bd.meth) := by rw [cell_of_row w10 _ 1 _ _ (0, 0) hgr9]; rfl
      have g2 : w10.cell? ⟨w.heap.size, 2, none⟩ = some (.string ⟨bd.locals.toArray⟩) := by rw [cell_of_row w10 _ 2 _ _ (0, 0) hgr9]; rfl
      have g3 : w10.cell? ⟨w.heap.size, 3, none⟩ = some (.slice none 0 0) := by rw [cell_of_row w10 _ 3 _ _ (0, 0) hgr9]; rfl
      have g4 : w10.cell? ⟨w.heap.size, 4, none⟩ = some (.slice (some ⟨g, 0, none⟩) n capk) := by rw [cell_of_row w10 _ 4 _ _ (0, 0) hgr9]; rfl
      have n0 : w10.cell? ⟨w.heap.size + 1, 0, none⟩ = some (.int .u8 X.op.toNat) := by rw [cell_of_row w10 _ 0 _ _ (0, 0) hnr9]; rfl
      have n1 : w10.cell? ⟨w.heap.size + 1, 1, none⟩ = some (.int .i64 X.a) := by rw [cell_of_row w10 _ 1 _ _ (0, 0) hnr9]; rfl
      have n2 : w10.cell? ⟨w.heap.size + 1, 2, none⟩ = some (.int .i64 X.b) := by rw [cell_of_row w10 _ 2 _ _ (0, 0) hnr9]; rfl
      have n3 : w10.cell? ⟨w.heap.size + 1, 3, none⟩ = some (.int .i64 X.pos) := by rw [cell_of_row w10 _ 3 _ _ (0, 0) hnr9]; rfl
      have n4 : w10.cell? ⟨w.heap.size + 1, 4, none⟩ = some (.int .i64 e) := by rw [cell_of_row w10 _ 4 _ _ (0, 0) hnr9]; rfl
      have t101 : ((X.op.toNat : Int) == 101) = false := by rw [beq_eq_false_iff_ne]; omega
      have t120 : ((X.op.toNat : Int) == 120) = false := by rw [beq_eq_false_iff_ne]; omega
      have t44 : ((X.op.toNat : Int) == 44) = false := by rw [beq_eq_false_iff_ne]; omega
      have t105 : ((X.op.toNat : Int) == 105) = false := by rw [beq_eq_false_iff_ne]; omega
      have t111 : ((X.op.toNat : Int) == 111) = false := by rw [beq_eq_false_iff_ne]; omega
      clear h101 h120 h44 h105 h111
      go_wp2_with fail
      refine (gives_any bi im bd _ n capk X e w10 (hI.but hB11) hW hbd hwx).mono ?_
      rintro en w9 ⟨rfl, hB10⟩
      clear g0 g1 g2 g3 g4 n0 n1 n2 n3 n4
      go_wp2_with fail
      go_ret2
      exact ⟨rfl, hB11.trans hB10⟩
end Go.Proofs.YtpfkkmacakjmbaaGreatDoor
