import Derived.Test.YtdgacidndknceaaGreatDoorRows
import Derived.WalkKit
import Derived.ProofKit
import Derived.WalkSpells
import Derived.WalkLawsBesides
import Derived.Outline
import Derived.OneCell
import Derived.Lib.AppendStr
import Derived.Laws.BytesString
import Derived.Laws.BytesArg
import Derived.Laws.IdiomStrings
import Derived.Laws.BitsAllLaws
import Derived.Deep.QuietTactic
import Derived.BigQuiet
import Derived.Deep.LoopGhost
import Derived.Deep.RegionLaw
import Derived.OrdersHeld
set_option linter.defProp false
namespace Go.Proofs.YtdgacidndknceaaGreatDoor
abbrev rD(x0:Bool)(x1 x2 x3 x4 x5 x6 x7 x8 x9 x10:Int)(x11:Option Addr)(y11 z11:Nat)(x12:Int):Array Value:=#[.bool x0,.int .u32 x1,.int .u32 x2,.int .u32 x3,.int .u32 x4,.int .u8 x5,.int .u8 x6,.int .u8 x7,.int .u8 x8,.int .u8 x9,.int .u8 x10,.slice x11 y11 z11,.int .u32 x12]
abbrev rE(x0 x1 x2 x3 x4 x5 x6 x7 x8 x9 x10 x11 x12 x13 x14:Int):Array Value:=#[.int .u16 x0,.int .u8 x1,.int .u8 x2,.int .u8 x3,.int .u8 x4,.int .u8 x5,.int .u8 x6,.int .u32 x7,.int .u8 x8,.int .u8 x9,.int .u8 x10,.int .u8 x11,.int .u8 x12,.int .u8 x13,.int .u32 x14]
abbrev rA(x0:Bool)(x1 x2 x3 x4 x5 x6 x7 x8 x9 x10:Int)(x11:Option Addr)(y11 z11:Nat):Array Value:=#[.bool x0,.int .u32 x1,.int .u32 x2,.int .u32 x3,.int .u32 x4,.int .u8 x5,.int .u8 x6,.int .u8 x7,.int .u8 x8,.int .u8 x9,.int .u8 x10,.slice x11 y11 z11]
abbrev rF(x0 x1 x2 x3 x4 x5 x6 x7 x8 x9 x10 x11 x12:Int)(x13:ByteArray):Array Value:=#[.int .u8 x0,.int .u8 x1,.int .u8 x2,.int .u8 x3,.int .u8 x4,.int .u8 x5,.int .u8 x6,.int .u8 x7,.int .u8 x8,.int .u8 x9,.int .u8 x10,.int .u8 x11,.int .u16 x12,.string x13]
abbrev rI(x0 x1 x2 x3 x4:Int)(x5:ByteArray):Array Value:=#[.int .u16 x0,.int .u8 x1,.int .u8 x2,.int .u32 x3,.int .u32 x4,.string x5]
abbrev rU(x0 x1:Int)(x2:ByteArray):Array Value:=#[.int .u16 x0,.int .u16 x1,.string x2]
abbrev rM(x0 x1:Int)(x2 x3:ByteArray)(x4:Option Addr)(y4 z4:Nat):Array Value:=#[.int .u16 x0,.int .u16 x1,.string x2,.string x3,.slice x4 y4 z4]
abbrev rG(x0 x1 x2:Int)(x3:Bool)(x4 x5 x6:Int):Array Value:=#[.int .u32 x0,.int .u32 x1,.int .u32 x2,.bool x3,.int .u32 x4,.int .u32 x5,.int .u32 x6]
abbrev rT(x0 x1 x2 x3 x4 x5:Int):Array Value:=#[.int .u8 x0,.int .u8 x1,.int .u8 x2,.int .u8 x3,.int .u8 x4,.int .u8 x5]
abbrev rS(x0 x1 x2 x3 x4 x5 x6 x7:Int):Array Value:=#[.int .u32 x0,.int .u32 x1,.int .u32 x2,.int .u32 x3,.int .u32 x4,.int .u32 x5,.int .u32 x6,.int .u32 x7]
abbrev rK(x0 x1 x2 x3 x4 x5:Int)(x6:ByteArray)(x7:Int)(x8:ByteArray)(x9 x10 x11 x12:Int):Array Value:=#[.int .u8 x0,.int .u8 x1,.int .u8 x2,.int .u8 x3,.int .u8 x4,.int .u8 x5,.string x6,.int .i64 x7,.string x8,.int .i64 x9,.int .i64 x10,.int .i64 x11,.int .i64 x12]
abbrev rN(x0 x1 x2 x3 x4 x5 x6 x7 x8 x9 x10 x11 x12 x13 x14 x15 x16 x17 x18 x19 x20 x21 x22 x23 x24 x25 x26 x27 x28 x29 x30 x31:Int):Array Value:=#[.int .u8 x0,.int .u8 x1,.int .u8 x2,.int .u8 x3,.int .u8 x4,.int .u8 x5,.int .u8 x6,.int .u8 x7,.int .u8 x8,.int .u8 x9,.int .u8 x10,.int .u8 x11,.int .u8 x12,.int .u8 x13,.int .u8 x14,.int .u8 x15,.int .u8 x16,.int .u8 x17,.int .u8 x18,.int .u8 x19,.int .u8 x20,.int .u8 x21,.int .u8 x22,.int .u8 x23,.int .u8 x24,.int .u8 x25,.int .u8 x26,.int .u8 x27,.int .u8 x28,.int .u8 x29,.int .u8 x30,.int .u8 x31]
abbrev rB(x0 x1 x2 x3 x4 x5 x6 x7:Int)(x8:ByteArray):Array Value:=#[.int .i64 x0,.int .u8 x1,.int .u8 x2,.int .u8 x3,.int .u8 x4,.int .u8 x5,.int .u8 x6,.int .i64 x7,.string x8]
abbrev rC(x0 x1 x2 x3 x4 x5 x6 x7:Int):Array Value:=#[.int .i64 x0,.int .i64 x1,.int .i64 x2,.int .u32 x3,.int .i64 x4,.int .i64 x5,.int .i64 x6,.int .i64 x7]
abbrev rH(x0:Option Addr)(y0 z0:Nat)(x1 x2 x3 x4 x5 x6 x7 x8 x9 x10:Int):Array Value:=#[.slice x0 y0 z0,.int .i64 x1,.int .i64 x2,.int .i64 x3,.int .i64 x4,.int .i64 x5,.int .u32 x6,.int .i64 x7,.int .i64 x8,.int .i64 x9,.int .i64 x10]
abbrev rJ(x0:Int)(x1:ByteArray)(x2:Int)(x3:ByteArray)(x4:Int)(x5:ByteArray)(x6:Int)(x7:ByteArray)(x8:Int)(x9:ByteArray):Array Value:=#[.int .u8 x0,.string x1,.int .u8 x2,.string x3,.int .u8 x4,.string x5,.int .u8 x6,.string x7,.int .u8 x8,.string x9]
abbrev rL(x0 x1 x2:Int):Array Value:=#[.int .i64 x0,.int .i64 x1,.int .i64 x2]
abbrev rO(x0:ByteArray)(x1 x2:Int):Array Value:=#[.string x0,.int .u32 x1,.int .u32 x2]
abbrev zE_:Array Value:=rE 0 0 0 0 0 0 0 0 0 0 0 0 0 0 0
abbrev zA_:Array Value:=rA false 0 0 0 0 0 0 0 0 0 0 none 0 0
abbrev zF_:Array Value:=rF 0 0 0 0 0 0 0 0 0 0 0 0 0 ⟨#[]⟩
abbrev zI_:Array Value:=rI 0 0 0 0 0 ⟨#[]⟩
abbrev zU_:Array Value:=rU 0 0 ⟨#[]⟩
abbrev zM_:Array Value:=rM 0 0 ⟨#[]⟩ ⟨#[]⟩ none 0 0
abbrev zG_:Array Value:=rG 0 0 0 false 0 0 0
abbrev zT_:Array Value:=rT 0 0 0 0 0 0
abbrev zS_:Array Value:=rS 0 0 0 0 0 0 0 0
abbrev zK_:Array Value:=rK 0 0 0 0 0 0 ⟨#[]⟩ 0 ⟨#[]⟩ 0 0 0 0
abbrev zN_:Array Value:=rN 0 0 0 0 0 0 0 0 0 0 0 0 0 0 0 0 0 0 0 0 0 0 0 0 0 0 0 0 0 0 0 0
abbrev zB_:Array Value:=rB 0 0 0 0 0 0 0 0 ⟨#[]⟩
abbrev zC_:Array Value:=rC 0 0 0 0 0 0 0 0
abbrev a_(b k:Nat):Addr:=⟨b,k,none⟩
abbrev p_(b:Nat):Value:=.pointer (some ⟨b,0,none⟩)
theorem tk_{P:Program}{ops:Array Oper}{Q:Exit→Act→World→Prop}{md:Region.Mode}{i:Nat}{oi:Oper}{v:Value}{fuel:Nat}{listed:Array Bool}{a:Act}{w:World}(hi:ops[i]?=some oi)(h3:(Region.noSelect ops&&(Region.free md ops listed i&&(Region.ready md ops listed).contains i))=true)(hQ:∀ (c:List PanicEntry) (a:Act) (w:World),Q (.panic c) (a.put oi.dst v) w→Q (.panic c) a w)(hy:Yields P ops oi v a)(h:wpAny P md ops Q fuel (listed.setIfInBounds i true) (a.put oi.dst v) w):wpAny P md ops Q (fuel+1) listed a w:=by
 simp only[Bool.and_eq_true]at h3
 exact wpAny_take hi h3.1 h3.2.1 h3.2.2 hQ hy h
theorem tkH_{P:Program}{ops:Array Oper}{Q:Exit→Act→World→Prop}{md:Region.Mode}{S:World→Prop}{i:Nat}{oi:Oper}{v:Value}{fuel:Nat}{listed:Array Bool}{a:Act}{w:World}(hi:ops[i]?=some oi)(h3:(Region.noSelect ops&&(Region.free md ops listed i&&(Region.ready md ops listed).contains i))=true)(hQ:∀ (c:List PanicEntry) (a:Act) (w:World),Q (.panic c) (a.put oi.dst v) w→Q (.panic c) a w)(hy:YieldsIf P ops S oi v a)(hS:S w)(h:wpAnyH P md ops Q S fuel (listed.setIfInBounds i true) (a.put oi.dst v) w):wpAnyH P md ops Q S (fuel+1) listed a w:=by
 simp only[Bool.and_eq_true]at h3
 exact wpAnyH_take hi h3.1 h3.2.1 h3.2.2 hQ hy hS h
def ae:=@List.setIfInBounds_toArray
def ah:=@List.set_cons_zero
def af:=@List.set_cons_succ
def dP:=@List.getElem_cons_succ
def dQ:=@List.getElem_cons_zero
def dh:=@Go.cell_of_row
def eD:=@List.getElem_toArray
def ai:=@Nat.le_refl
def G8:=@Go.heap_alloc_new
def R8:=@Go.RowKit.Below.heap_setCell
def R9:=@Go.RowKit.Below.refl
def ak:=@List.length_append
def aj:=@List.length_cons
def Vi:=@Go.RowKit.Below.heap_alloc
def au:=@Or.inl
def Vj:=@Go.lt_of_block
def ax:=@if_neg
def aL:=@List.take_succ_eq_append_getElem
def Vk:=@Go.World.cell?_of_block
def Vm:=@Go.cell_of_one
def aA:=@Or.inr
def aG:=@Nat.le_trans
def ay:=@if_pos
def aQ:=@Nat.lt_of_lt_of_le
def aU:=@Option.some.inj
def Vo:=@Go.wpAnyH_take
def aP:=@List.length_nil
def eG:=@Nat.ne_of_lt
def aT:=@List.length_take
def Vl:=@Go.bodyPost_ret
def aF:=@Array.length_toList
def Vs:=@Go.rounds_succ
def VC:=@Go.RowKit.ownsRow_setCell_below
def bg:=@List.append_assoc
def Vw:=@Go.ByteArray.toList_eq
def aN:=@Nat.zero_le
def fe:=@List.getElem?_eq_getElem
def bE:=@Go.Calls.mono
def aR:=@List.getD_eq_getElem?_getD
def bB:=@Option.some.injEq
def Vp:=@Go.World.ownsRow_nil
def aS:=@List.take_length
def eP:=@Go.Proofs.Tryz.underlying73
def aW:=@List.length_drop
def Vy:=@Go.free_of_one
def bR:=@Go.Obj.cells.injEq
def Vv:=@Go.wpList_append_own
def aH:=@Go.World.block_lt_of_cell?
def aV:=@List.drop_eq_getElem_cons
def bn:=@List.append_nil
def cK:=@List.drop_eq_nil_of_le
def dF:=@Array.getElem?_eq_some_iff
def VD:=@Go.setCell_eq_setRow
def eQ:=@Go.heap_setCell_same
def bC:=@List.getElem?_toArray
def Vx:=@Go.info_parts
def bK:=@List.flatMap_append
def Vz:=@Go.wp_loop_rounds
def bV:=@List.take_append_drop
def bJ:=@List.length_replicate
def eT:=@Go.Proofs.Tryz.underlying9
def VB:=@Go.setRow_heap
def bG:=@List.take_of_length_le
def VF:=@Go.leaves_cons
def ed:=@Nat.mod_lt
def VG:=@Go.wpAnyH_done
def Vu:=@Go.IntKind.wrap_u16
def cB:=@List.getElem?_append_right
def eU:=@List.getElem?_cons_zero
def bF:=@List.flatMap_cons
def bU:=@Go.Proofs.Tryz.underlying5
def VI:=@Go.run_convert_bytes_back
def az:=@ByteArray.data_extract
def bN:=@Bool.false_eq_true
def bH:=@List.map_cons
def VE:=@Go.callsD_of_wpS
def VL:=@Go.RowKit.Below.alloc
def eX:=@Go.Proofs.Tryz.underlying200
def bz:=@List.getElem_mem
def aY:=@Array.getElem?_eq_getElem
def eY:=@List.size_toArray
def dZ:=@Array.getElem?_toList
def aK:=@Nat.le_of_lt
def bP:=@List.map_append
def gp:=@Bool.or_eq_false_iff
def dw:=@Bool.and_eq_true
def kD:=@List.cons_append
def dB:=@decide_eq_false_iff_not
def kU:=@Go.frozen_of_row
def cO:=@Go.Result.andThen_ok
def l8:=@Go.IntKind.wrap_u32'
def nD:=@List.toList_toArray
def oH:=@List.getElem?_append_left
def fo:=@UInt8.toNat_ofNat'
def VM:=@Go.wpS_region
def dz:=@Go.Sem.run_bind
def VR:=@Go.one_setCell
def dC:=@Array.getElem?_setIfInBounds
def bO:=@List.length_set
def VH:=@Go.RowKit.Below.drew
def di:=@List.length_map
def VO:=@Go.wpList_load_row
def VA:=@Go.Calls.quiet_of_same
def fB:=@Nat.zero_add
def VT:=@Go.RowKit.Below.setCell
def VP:=@Go.wpS_of_wp
def bL:=@Int.tmod_eq_emod_of_nonneg
def oK:=@Array.toList_setIfInBounds
def dL:=@Go.run_underlying
def fD:=@if_false
def o7:=@List.set_append_right
def pK:=@List.getElem?_eq_none
def qw:=@List.getElem?_eq_some_iff
def dH:=@List.pairwise_iff_getElem
def bY:=@List.nil_append
def fC:=@List.getElem?_map
def dE:=@List.map_nil
def cZ:=@decide_eq_true_eq
def fE:=@if_true
def rz:=@UInt8.toNat_ofNat_of_lt'
def vk:=@List.map_congr_left
def bD:=@List.eq_nil_of_length_eq_zero
def dR:=@Go.Sem.run_pure
def vz:=@Go.Proofs.Tryz.underlying44
def vH:=@Nat.xor_lt_two_pow
def aX:=@ByteArray.size_extract
def dD:=@UInt8.toNat_inj
def vK:=@Go.Proofs.Tryz.underlying102
def wh:=@Go.Proofs.Tryz.underlying269
def wy:=@List.ext_getElem?
def aZ:=@congrArg
def dN:=@Nat.le_succ
def VW:=@Go.toList_madeCells_one
def fO:=@Nat.mul_one
def VK:=@Go.RowKit.Below.trans
def xW:=@Array.toList_extract
def dG:=@Int.tdiv_eq_ediv_of_nonneg
def dK:=@Nat.mod_eq_of_lt
def bA:=@List.filter_cons
def VV:=@Go.wpS_seq
def VQ:=@Go.IntKind.wrap_i64
def zf:=@Go.Lib.run_append_own_string
def aD:=@beq_eq_false_iff_ne
def dW:=@List.sum_cons
def eO:=@List.any_cons
def aC:=@ByteArray.ext
def bS:=@Nat.lt_irrefl
def zA:=@Go.Proofs.Tryz.ntmps100
def dU:=@List.sum_append
def BL:=@Nat.min_eq_left
def aJ:=@Array.ext'
def Gi:=@List.getElem?_take
def Gp:=@List.mem_singleton
def Gq:=@Go.u32_xor_nat
def fQ:=@Nat.add_zero
def fF:=@UInt8.toNat_lt
def Gr:=@List.take_left
def G9:=@List.drop_length
def fK:=@Bool.or_false
def IA:=@List.any_append
def IB:=@List.take_left'
def dO:=@List.mem_map
def I1:=@getElem!_pos
def bT:=@Go.wp_seq_k
end Go.Proofs.YtdgacidndknceaaGreatDoor
