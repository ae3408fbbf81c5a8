import Derived.Test.YtdgacidndknceaaGreatDoorRows
import Derived.WalkKit
import Derived.ProofKit
import Derived.WalkSpells
import Derived.WalkLawsBesides
import Derived.Outline
import Derived.OneCell
import Derived.Lib.AppendStr
import Derived.Laws.BytesString
import Derived.Laws.BytesArg
import Derived.Laws.IdiomStrings
import Derived.Laws.BitsAllLaws
import Derived.Deep.QuietTactic
import Derived.BigQuiet
import Derived.Deep.LoopGhost
import Derived.Deep.RegionLaw
import Derived.OrdersHeld
set_option linter.defProp false
namespace Go.Proofs.YtdgacidndknceaaGreatDoor
abbrev rD(x0:Bool)(x1 x2 x3 x4 x5 x6 x7 x8 x9 x10:Int)(x11:Option Addr)(y11 z11:Nat)(x12:Int):Array Value:=#[.bool x0,.int .u32 x1,.int .u32 x2,.int .u32 x3,.int .u32 x4,.int .u8 x5,.int .u8 x6,.int .u8 x7,.int .u8 x8,.int .u8 x9,.int .u8 x10,.slice x11 y11 z11,.int .u32 x12]
abbrev rE(x0 x1 x2 x3 x4 x5 x6 x7 x8 x9 x10 x11 x12 x13 x14:Int):Array Value:=#[.int .u16 x0,.int .u8 x1,.int .u8 x2,.int .u8 x3,.int .u8 x4,.int .u8 x5,.int .u8 x6,.int .u32 x7,.int .u8 x8,.int .u8 x9,.int .u8 x10,.int .u8 x11,.int .u8 x12,.int .u8 x13,.int .u32 x14]
abbrev rA(x0:Bool)(x1 x2 x3 x4 x5 x6 x7 x8 x9 x10:Int)(x11:Option Addr)(y11 z11:Nat):Array Value:=#[.bool x0,.int .u32 x1,.int .u32 x2,.int .u32 x3,.int .u32 x4,.int .u8 x5,.int .u8 x6,.int .u8 x7,.int .u8 x8,.int .u8 x9,.int .u8 x10,.slice x11 y11 z11]
abbrev rF(x0 x1:Int)(x2:ByteArray):Array Value:=#[.int .u16 x0,.int .u16 x1,.string x2]
abbrev rI(x0 x1 x2 x3 x4 x5 x6 x7 x8 x9 x10 x11 x12:Int)(x13:ByteArray):Array Value:=#[.int .u8 x0,.int .u8 x1,.int .u8 x2,.int .u8 x3,.int .u8 x4,.int .u8 x5,.int .u8 x6,.int .u8 x7,.int .u8 x8,.int .u8 x9,.int .u8 x10,.int .u8 x11,.int .u16 x12,.string x13]
abbrev rU(x0 x1 x2 x3 x4:Int)(x5:ByteArray):Array Value:=#[.int .u16 x0,.int .u8 x1,.int .u8 x2,.int .u32 x3,.int .u32 x4,.string x5]
abbrev rM(x0 x1 x2 x3 x4 x5 x6 x7:Int)(x8:ByteArray):Array Value:=#[.int .i64 x0,.int .u8 x1,.int .u8 x2,.int .u8 x3,.int .u8 x4,.int .u8 x5,.int .u8 x6,.int .i64 x7,.string x8]
abbrev rG(x0 x1:Int)(x2 x3:ByteArray)(x4:Option Addr)(y4 z4:Nat):Array Value:=#[.int .u16 x0,.int .u16 x1,.string x2,.string x3,.slice x4 y4 z4]
abbrev rT(x0 x1 x2 x3 x4 x5 x6 x7:Int):Array Value:=#[.int .u32 x0,.int .u32 x1,.int .u32 x2,.int .u32 x3,.int .u32 x4,.int .u32 x5,.int .u32 x6,.int .u32 x7]
abbrev rS(x0 x1 x2 x3 x4 x5:Int):Array Value:=#[.int .u8 x0,.int .u8 x1,.int .u8 x2,.int .u8 x3,.int .u8 x4,.int .u8 x5]
abbrev rK(x0 x1 x2:Int)(x3:Bool)(x4 x5 x6:Int):Array Value:=#[.int .u32 x0,.int .u32 x1,.int .u32 x2,.bool x3,.int .u32 x4,.int .u32 x5,.int .u32 x6]
abbrev rN(x0 x1 x2 x3 x4 x5:Int)(x6:ByteArray)(x7:Int)(x8:ByteArray)(x9 x10 x11 x12:Int):Array Value:=#[.int .u8 x0,.int .u8 x1,.int .u8 x2,.int .u8 x3,.int .u8 x4,.int .u8 x5,.string x6,.int .i64 x7,.string x8,.int .i64 x9,.int .i64 x10,.int .i64 x11,.int .i64 x12]
abbrev rB(x0 x1 x2 x3 x4 x5 x6 x7 x8 x9 x10 x11 x12 x13 x14 x15 x16 x17 x18 x19 x20 x21 x22 x23 x24 x25 x26 x27 x28 x29 x30 x31:Int):Array Value:=#[.int .u8 x0,.int .u8 x1,.int .u8 x2,.int .u8 x3,.int .u8 x4,.int .u8 x5,.int .u8 x6,.int .u8 x7,.int .u8 x8,.int .u8 x9,.int .u8 x10,.int .u8 x11,.int .u8 x12,.int .u8 x13,.int .u8 x14,.int .u8 x15,.int .u8 x16,.int .u8 x17,.int .u8 x18,.int .u8 x19,.int .u8 x20,.int .u8 x21,.int .u8 x22,.int .u8 x23,.int .u8 x24,.int .u8 x25,.int .u8 x26,.int .u8 x27,.int .u8 x28,.int .u8 x29,.int .u8 x30,.int .u8 x31]
abbrev rC(x0 x1 x2 x3 x4 x5 x6 x7:Int):Array Value:=#[.int .i64 x0,.int .i64 x1,.int .i64 x2,.int .u32 x3,.int .i64 x4,.int .i64 x5,.int .i64 x6,.int .i64 x7]
abbrev rH(x0 x1 x2:Int):Array Value:=#[.int .i64 x0,.int .i64 x1,.int .i64 x2]
abbrev rJ(x0:ByteArray)(x1 x2:Int):Array Value:=#[.string x0,.int .u32 x1,.int .u32 x2]
abbrev zE_:Array Value:=rE 0 0 0 0 0 0 0 0 0 0 0 0 0 0 0
abbrev zA_:Array Value:=rA false 0 0 0 0 0 0 0 0 0 0 none 0 0
abbrev zF_:Array Value:=rF 0 0 ⟨#[]⟩
abbrev zU_:Array Value:=rU 0 0 0 0 0 ⟨#[]⟩
abbrev zM_:Array Value:=rM 0 0 0 0 0 0 0 0 ⟨#[]⟩
abbrev zG_:Array Value:=rG 0 0 ⟨#[]⟩ ⟨#[]⟩ none 0 0
abbrev zT_:Array Value:=rT 0 0 0 0 0 0 0 0
abbrev zS_:Array Value:=rS 0 0 0 0 0 0
abbrev zK_:Array Value:=rK 0 0 0 false 0 0 0
abbrev zN_:Array Value:=rN 0 0 0 0 0 0 ⟨#[]⟩ 0 ⟨#[]⟩ 0 0 0 0
abbrev zB_:Array Value:=rB 0 0 0 0 0 0 0 0 0 0 0 0 0 0 0 0 0 0 0 0 0 0 0 0 0 0 0 0 0 0 0 0
abbrev zC_:Array Value:=rC 0 0 0 0 0 0 0 0
abbrev a_(b k:Nat):Addr:=⟨b,k,none⟩
abbrev p_(b:Nat):Value:=.pointer (some ⟨b,0,none⟩)
theorem tk_{P:Program}{ops:Array Oper}{Q:Exit→Act→World→Prop}{md:Region.Mode}{i:Nat}{oi:Oper}{v:Value}{fuel:Nat}{listed:Array Bool}{a:Act}{w:World}(hi:ops[i]?=some oi)(h3:(Region.noSelect ops&&(Region.free md ops listed i&&(Region.ready md ops listed).contains i))=true)(hQ:∀ (c:List PanicEntry) (a:Act) (w:World),Q (.panic c) (a.put oi.dst v) w→Q (.panic c) a w)(hy:Yields P ops oi v a)(h:wpAny P md ops Q fuel (listed.setIfInBounds i true) (a.put oi.dst v) w):wpAny P md ops Q (fuel+1) listed a w:=by
 simp only[Bool.and_eq_true]at h3
 exact wpAny_take hi h3.1 h3.2.1 h3.2.2 hQ hy h
theorem tkH_{P:Program}{ops:Array Oper}{Q:Exit→Act→World→Prop}{md:Region.Mode}{S:World→Prop}{i:Nat}{oi:Oper}{v:Value}{fuel:Nat}{listed:Array Bool}{a:Act}{w:World}(hi:ops[i]?=some oi)(h3:(Region.noSelect ops&&(Region.free md ops listed i&&(Region.ready md ops listed).contains i))=true)(hQ:∀ (c:List PanicEntry) (a:Act) (w:World),Q (.panic c) (a.put oi.dst v) w→Q (.panic c) a w)(hy:YieldsIf P ops S oi v a)(hS:S w)(h:wpAnyH P md ops Q S fuel (listed.setIfInBounds i true) (a.put oi.dst v) w):wpAnyH P md ops Q S (fuel+1) listed a w:=by
 simp only[Bool.and_eq_true]at h3
 exact wpAnyH_take hi h3.1 h3.2.1 h3.2.2 hQ hy hS h
theorem on_{P:Program}{f:FuncId}{a:Array Value}{w:World}{e:Ending}{R:World→Prop}{Q:Ending→World→Prop}(h:Calls P f a w fun x u=>x=e∧R u)(k:∀u,R u→Q e u):Calls P f a w Q:=h.mono fun _ u h=>h.1▸k u h.2
abbrev c_(u:World)(b k:Nat)(v:Value):Prop:=u.cell? ⟨b,k,none⟩=some v
theorem hmf_(fn:Fn)(first cap:Array Value)(w:World):(Instr.makeFunc fn first cap).run Tryz.prog w=.ok (.func fn first cap) w:=rfl
theorem b1_{w:World}{o:Obj}:RowKit.Below w.heap.size w (w.alloc o):=(RowKit.Below.refl _ w).alloc (Nat.le_refl _) _
theorem b2_{w:World}{o q:Obj}:RowKit.Below w.heap.size w ((w.alloc o).alloc q):=b1_.alloc (by simp) _
theorem b3_{w:World}{o q r:Obj}:RowKit.Below w.heap.size w (((w.alloc o).alloc q).alloc r):=b2_.alloc (by simp;omega) _
theorem ex_{α:Sort _}(a:α):∃x,x=a:=⟨_,rfl⟩
def bm7:=@List.setIfInBounds_toArray
def bm8:=@List.set_cons_zero
def bn0:=@Go.cell_of_row
def bm9:=@List.set_cons_succ
def bn3:=@Go.heap_alloc_new
def bn1:=@List.getElem_cons_succ
def bn2:=@List.getElem_cons_zero
def bn6:=@List.length_append
def bn4:=@List.getElem_toArray
def bn7:=@Nat.le_refl
def bn5:=@List.length_cons
def bn8:=@Go.RowKit.Below.heap_alloc
def bo0:=@Go.RowKit.Below.heap_setCell
def bo1:=@Or.inl
def bn9:=@Go.RowKit.Below.refl
def bo2:=@Go.lt_of_block
def by5:=@congrArg
def bo3:=@Or.inr
def bo4:=@if_neg
def bo7:=@Go.World.cell?_of_block
def bo8:=@List.take_succ_eq_append_getElem
def bo6:=@Nat.le_trans
def bo9:=@Nat.lt_of_lt_of_le
def bp0:=@if_pos
def bp1:=@Go.cell_of_one
def bo5:=@Nat.ne_of_lt
def bp5:=@Go.rounds_succ
def bp6:=@List.length_nil
def bp7:=@List.length_take
def bp4:=@Option.some.inj
def bp2:=@Array.length_toList
def bp3:=@Nat.zero_le
def bq1:=@List.append_assoc
def bq0:=@Go.ByteArray.toList_eq
def bq3:=@Go.World.ownsRow_nil
def bq7:=@List.getElem?_eq_getElem
def bq2:=@Go.wpList_store_row
def bq5:=@List.getD_eq_getElem?_getD
def bq6:=@Option.some.injEq
def bq4:=@Go.run_loadVar_row
def bq9:=@Go.bodyPost_ret
def br0:=@List.take_length
def br3:=@Go.Proofs.Tryz.underlying73
def ax:=@List.mem_append_right
def br2:=@Go.free_of_one
def bq8:=@List.length_drop
def br4:=@Go.wp_loop_rounds
def br7:=@List.drop_eq_nil_of_le
def br5:=@Go.wpList_append_own
def br9:=@List.drop_eq_getElem_cons
def bp8:=@Go.World.block_lt_of_cell?
def br6:=@Go.Obj.cells.injEq
def br8:=@List.append_nil
def bs0:=@Go.RowKit.ownsRow_setCell_below
def ol:=@Go.info_parts
def bs2:=@Array.getElem?_eq_some_iff
def bs5:=@Go.heap_setCell_same
def bs7:=@List.getElem?_toArray
def ah:=@Int.le_refl
def bs9:=@List.flatMap_append
def bt0:=@Go.setRow_other
def bs3:=@Go.setCell_eq_setRow
def bs6:=@List.take_append_drop
def bt4:=@List.length_replicate
def bt2:=@Go.setRow_heap
def bu0:=@Nat.mod_lt
def bu7:=@Bool.and_eq_true
def bs8:=@Go.Proofs.Tryz.underlying9
def bt6:=@List.take_of_length_le
def bt9:=@Go.leaves_cons
def bt5:=@Go.wpList_load_row
def bz4:=@Int.tmod_eq_emod_of_nonneg
def bu4:=@Go.IntKind.wrap_u16
def bu5:=@List.getElem?_append_right
def bu8:=@List.getElem?_cons_zero
def bu9:=@List.flatMap_cons
def bv0:=@List.map_cons
def bv4:=@Go.Proofs.Tryz.underlying5
def bv8:=@Go.run_convert_bytes_back
def bv3:=@ByteArray.data_extract
def bu2:=@Bool.false_eq_true
def br1:=@Array.getElem?_toList
def bt3:=@List.size_toArray
def bw2:=@decide_eq_false_iff_not
def bv7:=@List.map_append
def bw8:=@List.nil_append
def bv1:=@Go.Proofs.Tryz.underlying200
def bu1:=@Go.Proofs.Tryz.underlying102
def bs4:=@List.getElem_mem
def bw1:=@List.cons_append
def bv2:=@Array.getElem?_eq_getElem
def bB1:=@List.eq_nil_of_length_eq_zero
def bA1:=@of_decide_eq_true
def bu3:=@Nat.lt_irrefl
def bv6:=@Nat.le_of_lt
def bC5:=@Nat.mod_eq_of_lt
def bv9:=@Bool.or_eq_false_iff
def bv5:=@Go.RowKit.Below.alloc
def bw3:=@Go.frozen_of_row
def bw5:=@Go.Result.andThen_ok
def bt8:=@Go.Proofs.Tryz.underlying36
def bu6:=@Go.Maps.int_keyed
def by6:=@decide_eq_true_eq
def bw6:=@Go.IntKind.wrap_u32'
def bw7:=@List.toList_toArray
def bp9:=@Go.Calls.quiet_of_same
def bw0:=@Go.wpAnyH_done
def bw9:=@List.getElem?_append_left
def bx9:=@UInt8.toNat_ofNat'
def bt1:=@Go.Calls.mono
def by0:=@Nat.zero_add
def by1:=@Go.Sem.run_bind
def ae:=@List.cons.inj
def bB9:=@Nat.le_succ
def by7:=@Array.getElem?_setIfInBounds
def bz9:=@List.length_set
def bz0:=@List.length_map
def bA3:=@if_true
def by3:=@Go.Proofs.Tryz.underlying96
def bz5:=@Array.toList_setIfInBounds
def bw4:=@Go.run_underlying
def bz1:=@if_false
def bz6:=@List.set_append_right
def bx8:=@List.getElem?_eq_none
def bz7:=@List.getElem?_eq_some_iff
def bz8:=@List.pairwise_iff_getElem
def rO:=@List.cons.injEq
def bA0:=@List.getElem?_map
def bA2:=@List.map_nil
def tF:=@List.mem_append_left
def bz2:=@List.any_cons
def bA5:=@UInt8.toNat_ofNat_of_lt'
def bA8:=@List.map_congr_left
def bB0:=@Go.IntKind.wrap_i64
def bC6:=@Nat.add_zero
def bB2:=@Go.Sem.run_pure
def by2:=@Go.Proofs.Tryz.underlying44
def by9:=@Go.RowKit.Below.drew
def bB3:=@Nat.xor_lt_two_pow
def bB4:=@ByteArray.size_extract
def bB5:=@UInt8.toNat_inj
def bE2:=@Bool.or_false
def bA6:=@Go.Proofs.Tryz.underlying269
def bA4:=@List.ext_getElem?
def bg4:=@Go.toList_madeCells_one
def bz3:=@Nat.mul_one
def bC0:=@Go.RowKit.Below.trans
def bC2:=@Array.toList_extract
def bC3:=@Int.tdiv_eq_ediv_of_nonneg
def bA9:=@List.filter_cons
def wy:=@Nat.lt_succ_self
def bC7:=@Go.Lib.run_append_own_string
def bA7:=@beq_eq_false_iff_ne
def bB7:=@List.sum_cons
def bC8:=@ByteArray.ext
def bC1:=@Go.Proofs.Tryz.ntmps100
def bC9:=@List.sum_append
def yf:=@Go.DataW.lit.injEq
def bD0:=@Nat.min_eq_left
def bD1:=@Array.ext'
def bD2:=@List.getElem?_take
def yg:=@Nat.pos_of_ne_zero
def bD3:=@List.mem_singleton
def bD4:=@Go.one_setCell
def bD5:=@Go.u32_xor_nat
def zt:=@Go.Value.slice.injEq
def bD6:=@UInt8.toNat_lt
def bD8:=@List.take_left
def bD9:=@List.drop_length
def bE1:=@Go.results_cell_row
def Cf:=@Go.wpList_range_own
def Cm:=@Go.Lit.int.injEq
def bE4:=@List.any_append
def bE5:=@List.take_left'
def bC4:=@List.mem_map
def aj:=@List.any_nil
def bE6:=@getElem!_pos
def Cs:=@Nat.succ_mul
def bE7:=@Go.wp_seq_k
end Go.Proofs.YtdgacidndknceaaGreatDoor
