import Derived.Test.YtbhbbeebncmaiaaGreatDoorRows
import Derived.WalkKit
import Derived.ProofKit
import Derived.WalkSpells
import Derived.WalkLawsBesides
import Derived.Outline
import Derived.OneCell
import Derived.Lib.AppendStr
import Derived.Laws.BytesString
import Derived.Laws.BytesArg
import Derived.Laws.IdiomStrings
import Derived.Laws.BitsAllLaws
import Derived.Deep.QuietTactic
import Derived.BigQuiet
import Derived.Deep.LoopGhost
import Derived.Deep.RegionLaw
import Derived.OrdersHeld
set_option linter.defProp false
namespace Go.Proofs.YtbhbbeebncmaiaaGreatDoor
abbrev rD(x0:Bool)(x1 x2 x3 x4 x5 x6 x7 x8 x9 x10:Int)(x11:Option Addr)(y11 z11:Nat):Array Value:=#[.bool x0,.int .u32 x1,.int .u32 x2,.int .u32 x3,.int .u32 x4,.int .u8 x5,.int .u8 x6,.int .u8 x7,.int .u8 x8,.int .u8 x9,.int .u8 x10,.slice x11 y11 z11]
abbrev rE(x0 x1 x2 x3 x4 x5 x6 x7 x8 x9 x10 x11 x12:Int)(x13:ByteArray):Array Value:=#[.int .u8 x0,.int .u8 x1,.int .u8 x2,.int .u8 x3,.int .u8 x4,.int .u8 x5,.int .u8 x6,.int .u8 x7,.int .u8 x8,.int .u8 x9,.int .u8 x10,.int .u8 x11,.int .u16 x12,.string x13]
abbrev rA(x0 x1 x2 x3 x4 x5 x6 x7 x8 x9 x10 x11 x12 x13 x14:Int):Array Value:=#[.int .u16 x0,.int .u8 x1,.int .u8 x2,.int .u8 x3,.int .u8 x4,.int .u8 x5,.int .u8 x6,.int .u32 x7,.int .u8 x8,.int .u8 x9,.int .u8 x10,.int .u8 x11,.int .u8 x12,.int .u8 x13,.int .u32 x14]
abbrev rF(x0:Bool)(x1 x2 x3 x4 x5 x6 x7 x8 x9 x10:Int)(x11:Option Addr)(y11 z11:Nat)(x12:Int):Array Value:=#[.bool x0,.int .u32 x1,.int .u32 x2,.int .u32 x3,.int .u32 x4,.int .u8 x5,.int .u8 x6,.int .u8 x7,.int .u8 x8,.int .u8 x9,.int .u8 x10,.slice x11 y11 z11,.int .u32 x12]
abbrev rI(x0 x1 x2 x3 x4 x5 x6 x7 x8:Int)(x9:ByteArray)(x10:Int)(x11:ByteArray)(x12 x13 x14 x15:Int)(x16:ByteArray):Array Value:=#[.int .i64 x0,.int .i64 x1,.int .i64 x2,.int .u8 x3,.int .u8 x4,.int .u8 x5,.int .u8 x6,.int .u8 x7,.int .u8 x8,.string x9,.int .i64 x10,.string x11,.int .i64 x12,.int .i64 x13,.int .i64 x14,.int .i64 x15,.string x16]
abbrev rU(x0 x1 x2 x3 x4:Int)(x5:ByteArray):Array Value:=#[.int .u16 x0,.int .u8 x1,.int .u8 x2,.int .u32 x3,.int .u32 x4,.string x5]
abbrev rM(x0 x1 x2 x3 x4 x5:Int)(x6:ByteArray)(x7:Int)(x8:ByteArray)(x9 x10 x11 x12:Int):Array Value:=#[.int .u8 x0,.int .u8 x1,.int .u8 x2,.int .u8 x3,.int .u8 x4,.int .u8 x5,.string x6,.int .i64 x7,.string x8,.int .i64 x9,.int .i64 x10,.int .i64 x11,.int .i64 x12]
abbrev rG(x0 x1:Int)(x2:ByteArray):Array Value:=#[.int .u16 x0,.int .u16 x1,.string x2]
abbrev rT(x0 x1 x2:Int)(x3:Bool)(x4 x5 x6:Int):Array Value:=#[.int .u32 x0,.int .u32 x1,.int .u32 x2,.bool x3,.int .u32 x4,.int .u32 x5,.int .u32 x6]
abbrev rS(x0 x1 x2 x3 x4 x5:Int):Array Value:=#[.int .u8 x0,.int .u8 x1,.int .u8 x2,.int .u8 x3,.int .u8 x4,.int .u8 x5]
abbrev rK(x0 x1 x2 x3 x4 x5 x6 x7:Int):Array Value:=#[.int .i64 x0,.int .i64 x1,.int .i64 x2,.int .u32 x3,.int .i64 x4,.int .i64 x5,.int .i64 x6,.int .i64 x7]
abbrev rN(x0 x1 x2 x3 x4 x5 x6 x7:Int)(x8:ByteArray):Array Value:=#[.int .i64 x0,.int .u8 x1,.int .u8 x2,.int .u8 x3,.int .u8 x4,.int .u8 x5,.int .u8 x6,.int .i64 x7,.string x8]
abbrev rB(x0:ByteArray)(x1 x2:Int):Array Value:=#[.string x0,.int .u32 x1,.int .u32 x2]
abbrev rC(x0:Int)(x1:ByteArray)(x2:Int)(x3:ByteArray):Array Value:=#[.int .u8 x0,.string x1,.int .u8 x2,.string x3]
abbrev rH(x0 x1 x2:Int):Array Value:=#[.int .i64 x0,.int .i64 x1,.int .i64 x2]
abbrev rJ(x0:Option Addr)(x1 x2:Int):Array Value:=#[.pointer x0,.int .u32 x1,.int .u32 x2]
abbrev zD_:Array Value:=rD false 0 0 0 0 0 0 0 0 0 0 none 0 0
abbrev zE_:Array Value:=rE 0 0 0 0 0 0 0 0 0 0 0 0 0 ⟨#[]⟩
abbrev zA_:Array Value:=rA 0 0 0 0 0 0 0 0 0 0 0 0 0 0 0
abbrev zU_:Array Value:=rU 0 0 0 0 0 ⟨#[]⟩
abbrev zG_:Array Value:=rG 0 0 ⟨#[]⟩
abbrev zT_:Array Value:=rT 0 0 0 false 0 0 0
abbrev zS_:Array Value:=rS 0 0 0 0 0 0
abbrev zK_:Array Value:=rK 0 0 0 0 0 0 0 0
abbrev zN_:Array Value:=rN 0 0 0 0 0 0 0 0 ⟨#[]⟩
abbrev a_(b k:Nat):Addr:=⟨b,k,none⟩
abbrev p_(b:Nat):Value:=.pointer (some ⟨b,0,none⟩)
theorem tk_{P:Program}{ops:Array Oper}{Q:Exit→Act→World→Prop}{md:Region.Mode}{i:Nat}{oi:Oper}{v:Value}{fuel:Nat}{listed:Array Bool}{a:Act}{w:World}(hi:ops[i]?=some oi)(h3:(Region.noSelect ops&&(Region.free md ops listed i&&(Region.ready md ops listed).contains i))=true)(hQ:∀ (c:List PanicEntry) (a:Act) (w:World),Q (.panic c) (a.put oi.dst v) w→Q (.panic c) a w)(hy:Yields P ops oi v a)(h:wpAny P md ops Q fuel (listed.setIfInBounds i true) (a.put oi.dst v) w):wpAny P md ops Q (fuel+1) listed a w:=by
 simp only[Bool.and_eq_true]at h3
 exact wpAny_take hi h3.1 h3.2.1 h3.2.2 hQ hy h
theorem tkH_{P:Program}{ops:Array Oper}{Q:Exit→Act→World→Prop}{md:Region.Mode}{S:World→Prop}{i:Nat}{oi:Oper}{v:Value}{fuel:Nat}{listed:Array Bool}{a:Act}{w:World}(hi:ops[i]?=some oi)(h3:(Region.noSelect ops&&(Region.free md ops listed i&&(Region.ready md ops listed).contains i))=true)(hQ:∀ (c:List PanicEntry) (a:Act) (w:World),Q (.panic c) (a.put oi.dst v) w→Q (.panic c) a w)(hy:YieldsIf P ops S oi v a)(hS:S w)(h:wpAnyH P md ops Q S fuel (listed.setIfInBounds i true) (a.put oi.dst v) w):wpAnyH P md ops Q S (fuel+1) listed a w:=by
 simp only[Bool.and_eq_true]at h3
 exact wpAnyH_take hi h3.1 h3.2.1 h3.2.2 hQ hy hS h
def ae:=@List.setIfInBounds_toArray
def af:=@List.set_cons_succ
def ah:=@List.set_cons_zero
def ai:=@Nat.le_refl
def G8:=@Go.heap_alloc_new
def HY:=@Go.cell_of_row
def R9:=@Go.RowKit.Below.refl
def R8:=@Go.RowKit.Below.heap_setCell
def aj:=@List.length_cons
def Vi:=@Go.RowKit.Below.heap_alloc
def ak:=@List.length_append
def au:=@Or.inl
def Vj:=@Go.lt_of_block
def ax:=@if_neg
def Vk:=@Go.World.cell?_of_block
def ay:=@if_pos
def aA:=@Or.inr
def aF:=@Array.length_toList
def az:=@ByteArray.data_extract
def Vl:=@Go.bodyPost_ret
def aG:=@Nat.le_trans
def aC:=@ByteArray.ext
def aD:=@beq_eq_false_iff_ne
def Vm:=@Go.cell_of_one
def aN:=@Nat.zero_le
def aL:=@List.take_succ_eq_append_getElem
def Vo:=@Go.wpAnyH_take
def aO:=@ByteArray.data_append
def aP:=@List.length_nil
def Vp:=@Go.World.ownsRow_nil
def Vn:=@Go.AllReady.cons
def aQ:=@Nat.lt_of_lt_of_le
def aJ:=@Array.ext'
def Vr:=@Go.run_string_add_sum
def aM:=@ByteArray.size_append
def aH:=@Go.World.block_lt_of_cell?
def Vs:=@Go.rounds_succ
def aB:=@Nat.ne_of_lt
def aU:=@Option.some.inj
def Vq:=@Go.AllReady.nil
def Vu:=@Go.IntKind.wrap_u16
def aR:=@List.getD_eq_getElem?_getD
def Vt:=@Go.wpAny_ready
def Vv:=@Go.wpList_append_own
def Vw:=@Go.ByteArray.toList_eq
def aS:=@List.take_length
def Vx:=@Go.info_parts
def Vy:=@Go.free_of_one
def aY:=@Array.getElem?_eq_getElem
def Vz:=@Go.wp_loop_rounds
def aT:=@List.length_take
def VA:=@Go.Calls.quiet_of_same
def bT:=@Go.wp_seq_k
def VC:=@Go.RowKit.ownsRow_setCell_below
def bn:=@List.append_nil
def aW:=@List.length_drop
def bA:=@List.filter_cons
def bB:=@Option.some.injEq
def bu:=@Go.Proofs.Tryz.underlying55
def bC:=@List.getElem?_toArray
def aV:=@List.drop_eq_getElem_cons
def VD:=@Go.setCell_eq_setRow
def bg:=@List.append_assoc
def bG:=@List.take_of_length_le
def VE:=@Go.callsD_of_wpS
def VB:=@Go.setRow_heap
def aZ:=@congrArg
def bL:=@Int.tmod_eq_emod_of_nonneg
def bz:=@List.getElem_mem
def bM:=@Go.Proofs.Tryz.underlying184
def bD:=@List.eq_nil_of_length_eq_zero
def VF:=@Go.leaves_cons
def aX:=@ByteArray.size_extract
def fe:=@List.getElem?_eq_getElem
def bF:=@List.flatMap_cons
def aK:=@Nat.le_of_lt
def bQ:=@of_decide_eq_true
def bI:=@Go.Proofs.Tryz.underlying9
def VH:=@Go.RowKit.Below.drew
def bR:=@Go.Obj.cells.injEq
def VI:=@Go.run_convert_bytes_back
def VJ:=@Go.World.frozen?_of_block
def bK:=@List.flatMap_append
def bE:=@Go.Calls.mono
def VK:=@Go.RowKit.Below.trans
def VL:=@Go.RowKit.Below.alloc
def bO:=@List.length_set
def VM:=@Go.wpS_region
def bH:=@List.map_cons
def bW:=@Go.Proofs.Tryz.underlying125
def bi:=@Go.Proofs.Tryz.results70
def VN:=@Go.run_equalIn_int
def dm:=@Go.Proofs.Tryz.underlying3
def VO:=@Go.wpList_load_row
def dn:=@List.getElem?_append_left
def bJ:=@List.length_replicate
def bN:=@Bool.false_eq_true
def VP:=@Go.wpS_of_wp
def VQ:=@Go.IntKind.wrap_i64
def bX:=@Go.Proofs.Tryz.underlying49
def bU:=@Go.Proofs.Tryz.underlying5
def dA:=@Go.DataW.trod_int
def VG:=@Go.wpAnyH_done
def di:=@List.length_map
def VR:=@Go.one_setCell
def VT:=@Go.RowKit.Below.setCell
def bS:=@Nat.lt_irrefl
def VU:=@Go.IntKind.wrap_u32
def cB:=@List.getElem?_append_right
def dG:=@Int.tdiv_eq_ediv_of_nonneg
def dI:=@Array.getElem_modify_self
def bP:=@List.map_append
def bY:=@List.nil_append
def dL:=@Go.run_underlying
def dB:=@decide_eq_false_iff_not
def dM:=@List.getElem?_replicate
def dN:=@Nat.le_succ
def dP:=@List.getElem_cons_succ
def dQ:=@List.getElem_cons_zero
def dz:=@Go.Sem.run_bind
def VV:=@Go.wpS_seq
def dC:=@Array.getElem?_setIfInBounds
def dD:=@UInt8.toNat_inj
def dY:=@Go.Proofs.Tryz.underlying262
def bV:=@List.take_append_drop
def dZ:=@Array.getElem?_toList
def d_:=@Int.emod_eq_of_lt
def cO:=@Go.Result.andThen_ok
def dJ:=@Int.toNat_natCast
def ed:=@Nat.mod_lt
def VW:=@Go.toList_madeCells_one
def ek:=@Array.toList_setIfInBounds
def dF:=@Array.getElem?_eq_some_iff
def eu:=@List.drop_drop
def VY:=@Go.RowKit.Below.mono
def cu:=@List.cons_append
def eF:=@List.getElem?_eq_some_iff
def eH:=@List.getElem_append
def eO:=@List.any_cons
def eZ:=@Option.isSome_iff_exists
def dV:=@List.mem_append
def fo:=@UInt8.toNat_ofNat'
def fq:=@of_decide_eq_false
def bZ:=@Option.isSome_none
def V3:=@Option.isSome_some
def fB:=@Nat.zero_add
def fC:=@List.getElem?_map
def dE:=@List.map_nil
def cK:=@List.drop_eq_nil_of_le
def fF:=@UInt8.toNat_lt
def cZ:=@decide_eq_true_eq
def dK:=@Nat.mod_eq_of_lt
def fJ:=@List.getElem_set
def dw:=@Bool.and_eq_true
def dx:=@Option.getD_none
def cz:=@Option.getD_some
def V4:=@Go.wpList_store_row
def dW:=@List.sum_cons
def fK:=@Bool.or_false
def V5:=@Go.wp_region_any
def dO:=@List.mem_map
def fE:=@if_true
def fG:=@Nat.add_comm
def fH:=@bne_iff_ne
def fT:=@beq_iff_eq
end Go.Proofs.YtbhbbeebncmaiaaGreatDoor
