import Derived.Test.YtdgacidndknceaaGreatDoorRows
import Derived.WalkKit
import Derived.ProofKit
import Derived.WalkSpells
import Derived.WalkLawsBesides
import Derived.Outline
import Derived.OneCell
import Derived.Lib.AppendStr
import Derived.Laws.BytesString
import Derived.Laws.BytesArg
import Derived.Laws.IdiomStrings
import Derived.Laws.BitsAllLaws
import Derived.Deep.QuietTactic
import Derived.BigQuiet
import Derived.Deep.LoopGhost
import Derived.Deep.RegionLaw
import Derived.OrdersHeld
set_option linter.defProp false
namespace Go.Proofs.YtdgacidndknceaaGreatDoor
abbrev rD(x0:Bool)(x1 x2 x3 x4 x5 x6 x7 x8 x9 x10:Int)(x11:Option Addr)(y11 z11:Nat)(x12:Int):Array Value:=#[.bool x0,.int .u32 x1,.int .u32 x2,.int .u32 x3,.int .u32 x4,.int .u8 x5,.int .u8 x6,.int .u8 x7,.int .u8 x8,.int .u8 x9,.int .u8 x10,.slice x11 y11 z11,.int .u32 x12]
abbrev rE(x0 x1 x2 x3 x4 x5 x6 x7 x8 x9 x10 x11 x12 x13 x14:Int):Array Value:=#[.int .u16 x0,.int .u8 x1,.int .u8 x2,.int .u8 x3,.int .u8 x4,.int .u8 x5,.int .u8 x6,.int .u32 x7,.int .u8 x8,.int .u8 x9,.int .u8 x10,.int .u8 x11,.int .u8 x12,.int .u8 x13,.int .u32 x14]
abbrev rA(x0:Bool)(x1 x2 x3 x4 x5 x6 x7 x8 x9 x10:Int)(x11:Option Addr)(y11 z11:Nat):Array Value:=#[.bool x0,.int .u32 x1,.int .u32 x2,.int .u32 x3,.int .u32 x4,.int .u8 x5,.int .u8 x6,.int .u8 x7,.int .u8 x8,.int .u8 x9,.int .u8 x10,.slice x11 y11 z11]
abbrev rF(x0 x1 x2 x3 x4 x5 x6 x7:Int)(x8:ByteArray):Array Value:=#[.int .i64 x0,.int .u8 x1,.int .u8 x2,.int .u8 x3,.int .u8 x4,.int .u8 x5,.int .u8 x6,.int .i64 x7,.string x8]
abbrev rI(x0 x1:Int)(x2:ByteArray):Array Value:=#[.int .u16 x0,.int .u16 x1,.string x2]
abbrev rU(x0 x1 x2 x3 x4:Int)(x5:ByteArray):Array Value:=#[.int .u16 x0,.int .u8 x1,.int .u8 x2,.int .u32 x3,.int .u32 x4,.string x5]
abbrev rM(x0 x1 x2 x3 x4 x5 x6 x7 x8 x9 x10 x11 x12:Int)(x13:ByteArray):Array Value:=#[.int .u8 x0,.int .u8 x1,.int .u8 x2,.int .u8 x3,.int .u8 x4,.int .u8 x5,.int .u8 x6,.int .u8 x7,.int .u8 x8,.int .u8 x9,.int .u8 x10,.int .u8 x11,.int .u16 x12,.string x13]
abbrev rG(x0 x1:Int)(x2 x3:ByteArray)(x4:Option Addr)(y4 z4:Nat):Array Value:=#[.int .u16 x0,.int .u16 x1,.string x2,.string x3,.slice x4 y4 z4]
abbrev rT(x0 x1 x2 x3 x4 x5:Int):Array Value:=#[.int .u8 x0,.int .u8 x1,.int .u8 x2,.int .u8 x3,.int .u8 x4,.int .u8 x5]
abbrev rS(x0 x1 x2 x3 x4 x5 x6 x7:Int):Array Value:=#[.int .u32 x0,.int .u32 x1,.int .u32 x2,.int .u32 x3,.int .u32 x4,.int .u32 x5,.int .u32 x6,.int .u32 x7]
abbrev rK(x0 x1 x2 x3 x4 x5:Int)(x6:ByteArray)(x7:Int)(x8:ByteArray)(x9 x10 x11 x12:Int):Array Value:=#[.int .u8 x0,.int .u8 x1,.int .u8 x2,.int .u8 x3,.int .u8 x4,.int .u8 x5,.string x6,.int .i64 x7,.string x8,.int .i64 x9,.int .i64 x10,.int .i64 x11,.int .i64 x12]
abbrev rN(x0 x1 x2 x3 x4 x5 x6 x7:Int):Array Value:=#[.int .i64 x0,.int .i64 x1,.int .i64 x2,.int .u32 x3,.int .i64 x4,.int .i64 x5,.int .i64 x6,.int .i64 x7]
abbrev rB(x0 x1 x2:Int)(x3:Bool)(x4 x5 x6:Int):Array Value:=#[.int .u32 x0,.int .u32 x1,.int .u32 x2,.bool x3,.int .u32 x4,.int .u32 x5,.int .u32 x6]
abbrev rC(x0 x1 x2 x3 x4 x5 x6 x7 x8 x9 x10 x11 x12 x13 x14 x15 x16 x17 x18 x19 x20 x21 x22 x23 x24 x25 x26 x27 x28 x29 x30 x31:Int):Array Value:=#[.int .u8 x0,.int .u8 x1,.int .u8 x2,.int .u8 x3,.int .u8 x4,.int .u8 x5,.int .u8 x6,.int .u8 x7,.int .u8 x8,.int .u8 x9,.int .u8 x10,.int .u8 x11,.int .u8 x12,.int .u8 x13,.int .u8 x14,.int .u8 x15,.int .u8 x16,.int .u8 x17,.int .u8 x18,.int .u8 x19,.int .u8 x20,.int .u8 x21,.int .u8 x22,.int .u8 x23,.int .u8 x24,.int .u8 x25,.int .u8 x26,.int .u8 x27,.int .u8 x28,.int .u8 x29,.int .u8 x30,.int .u8 x31]
abbrev rH(x0:Option Addr)(y0 z0:Nat)(x1 x2 x3 x4 x5 x6 x7 x8 x9 x10:Int):Array Value:=#[.slice x0 y0 z0,.int .i64 x1,.int .i64 x2,.int .i64 x3,.int .i64 x4,.int .i64 x5,.int .u32 x6,.int .i64 x7,.int .i64 x8,.int .i64 x9,.int .i64 x10]
abbrev rJ(x0 x1:Int)(x2 x3:ByteArray)(x4:Option Addr)(y4 z4:Nat)(x5:Int):Array Value:=#[.int .u16 x0,.int .u16 x1,.string x2,.string x3,.slice x4 y4 z4,.int .u16 x5]
abbrev rL(x0 x1 x2:Int):Array Value:=#[.int .i64 x0,.int .i64 x1,.int .i64 x2]
abbrev rO(x0:ByteArray)(x1 x2:Int):Array Value:=#[.string x0,.int .u32 x1,.int .u32 x2]
abbrev zE_:Array Value:=rE 0 0 0 0 0 0 0 0 0 0 0 0 0 0 0
abbrev zA_:Array Value:=rA false 0 0 0 0 0 0 0 0 0 0 none 0 0
abbrev zF_:Array Value:=rF 0 0 0 0 0 0 0 0 ⟨#[]⟩
abbrev zI_:Array Value:=rI 0 0 ⟨#[]⟩
abbrev zU_:Array Value:=rU 0 0 0 0 0 ⟨#[]⟩
abbrev zG_:Array Value:=rG 0 0 ⟨#[]⟩ ⟨#[]⟩ none 0 0
abbrev zT_:Array Value:=rT 0 0 0 0 0 0
abbrev zS_:Array Value:=rS 0 0 0 0 0 0 0 0
abbrev zK_:Array Value:=rK 0 0 0 0 0 0 ⟨#[]⟩ 0 ⟨#[]⟩ 0 0 0 0
abbrev zN_:Array Value:=rN 0 0 0 0 0 0 0 0
abbrev zB_:Array Value:=rB 0 0 0 false 0 0 0
abbrev zC_:Array Value:=rC 0 0 0 0 0 0 0 0 0 0 0 0 0 0 0 0 0 0 0 0 0 0 0 0 0 0 0 0 0 0 0 0
abbrev a_(b k:Nat):Addr:=⟨b,k,none⟩
abbrev p_(b:Nat):Value:=.pointer (some ⟨b,0,none⟩)
theorem tk_{P:Program}{ops:Array Oper}{Q:Exit→Act→World→Prop}{md:Region.Mode}{i:Nat}{oi:Oper}{v:Value}{fuel:Nat}{listed:Array Bool}{a:Act}{w:World}(hi:ops[i]?=some oi)(h3:(Region.noSelect ops&&(Region.free md ops listed i&&(Region.ready md ops listed).contains i))=true)(hQ:∀ (c:List PanicEntry) (a:Act) (w:World),Q (.panic c) (a.put oi.dst v) w→Q (.panic c) a w)(hy:Yields P ops oi v a)(h:wpAny P md ops Q fuel (listed.setIfInBounds i true) (a.put oi.dst v) w):wpAny P md ops Q (fuel+1) listed a w:=by
 simp only[Bool.and_eq_true]at h3
 exact wpAny_take hi h3.1 h3.2.1 h3.2.2 hQ hy h
theorem tkH_{P:Program}{ops:Array Oper}{Q:Exit→Act→World→Prop}{md:Region.Mode}{S:World→Prop}{i:Nat}{oi:Oper}{v:Value}{fuel:Nat}{listed:Array Bool}{a:Act}{w:World}(hi:ops[i]?=some oi)(h3:(Region.noSelect ops&&(Region.free md ops listed i&&(Region.ready md ops listed).contains i))=true)(hQ:∀ (c:List PanicEntry) (a:Act) (w:World),Q (.panic c) (a.put oi.dst v) w→Q (.panic c) a w)(hy:YieldsIf P ops S oi v a)(hS:S w)(h:wpAnyH P md ops Q S fuel (listed.setIfInBounds i true) (a.put oi.dst v) w):wpAnyH P md ops Q S (fuel+1) listed a w:=by
 simp only[Bool.and_eq_true]at h3
 exact wpAnyH_take hi h3.1 h3.2.1 h3.2.2 hQ hy hS h
theorem on_{P:Program}{f:FuncId}{a:Array Value}{w:World}{e:Ending}{R:World→Prop}{Q:Ending→World→Prop}(h:Calls P f a w fun x u=>x=e∧R u)(k:∀u,R u→Q e u):Calls P f a w Q:=h.mono fun _ u h=>h.1▸k u h.2
abbrev c_(u:World)(b k:Nat)(v:Value):Prop:=u.cell? ⟨b,k,none⟩=some v
theorem hmf_(fn:Fn)(first cap:Array Value)(w:World):(Instr.makeFunc fn first cap).run Tryz.prog w=.ok (.func fn first cap) w:=rfl
theorem b1_{w:World}{o:Obj}:RowKit.Below w.heap.size w (w.alloc o):=(RowKit.Below.refl _ w).alloc (Nat.le_refl _) _
theorem b2_{w:World}{o q:Obj}:RowKit.Below w.heap.size w ((w.alloc o).alloc q):=b1_.alloc (by simp) _
theorem b3_{w:World}{o q r:Obj}:RowKit.Below w.heap.size w (((w.alloc o).alloc q).alloc r):=b2_.alloc (by simp;omega) _
theorem ex_{α:Sort _}(a:α):∃x,x=a:=⟨_,rfl⟩
def aR8:=@List.setIfInBounds_toArray
def aR9:=@List.set_cons_zero
def aS0:=@List.set_cons_succ
def aS3:=@Go.cell_of_row
def aS1:=@List.getElem_cons_succ
def aS2:=@List.getElem_cons_zero
def aS6:=@Go.heap_alloc_new
def aS4:=@List.getElem_toArray
def aT0:=@List.length_cons
def aS9:=@List.length_append
def aS5:=@Nat.le_refl
def aT1:=@Go.RowKit.Below.heap_alloc
def aS8:=@Go.RowKit.Below.refl
def aS7:=@Go.RowKit.Below.heap_setCell
def aT2:=@Or.inl
def aT3:=@Go.lt_of_block
def aT7:=@Or.inr
def aT4:=@if_neg
def aU4:=@Nat.ne_of_lt
def aT9:=@Nat.le_trans
def aT6:=@Go.World.cell?_of_block
def aT5:=@List.take_succ_eq_append_getElem
def aU1:=@Nat.lt_of_lt_of_le
def aU0:=@if_pos
def aT8:=@Go.cell_of_one
def aU8:=@Array.length_toList
def aV3:=@Nat.zero_le
def aU2:=@Option.some.inj
def aU9:=@Go.rounds_succ
def aU3:=@List.length_nil
def aU5:=@List.length_take
def aW5:=@Go.World.block_lt_of_cell?
def bd2:=@Go.Calls.quiet_of_same
def aV2:=@Go.ByteArray.toList_eq
def aV1:=@List.append_assoc
def V4:=@Go.wpList_store_row
def aV8:=@Go.World.ownsRow_nil
def ae:=@Go.run_loadVar_row
def aV6:=@List.getD_eq_getElem?_getD
def aV7:=@Option.some.injEq
def aV4:=@List.getElem?_eq_getElem
def aW1:=@List.length_drop
def aU6:=@Go.bodyPost_ret
def aV9:=@List.take_length
def ba0:=@Array.getElem?_toList
def aW3:=@Go.free_of_one
def aW0:=@Go.Proofs.Tryz.underlying73
def aX5:=@Go.wp_loop_rounds
def aW4:=@Go.wpList_append_own
def aW2:=@Go.Obj.cells.injEq
def aW8:=@List.drop_eq_nil_of_le
def aW7:=@List.append_nil
def aW6:=@List.drop_eq_getElem_cons
def aV0:=@Go.RowKit.ownsRow_setCell_below
def aX3:=@Go.info_parts
def aW9:=@Array.getElem?_eq_some_iff
def aX0:=@Go.setCell_eq_setRow
def aZ6:=@List.getElem_mem
def aX1:=@Go.heap_setCell_same
def aX6:=@List.take_append_drop
def aX2:=@List.getElem?_toArray
def aX8:=@Go.Proofs.Tryz.underlying9
def aX4:=@List.flatMap_append
def af:=@Go.setRow_other
def aV5:=@Go.Calls.mono
def aX9:=@Go.setRow_heap
def aZ9:=@List.size_toArray
def aX7:=@List.length_replicate
def bd1:=@Go.wpList_load_row
def aY0:=@List.take_of_length_le
def ah:=@Go.Proofs.Tryz.underlying36
def aZ4:=@Go.leaves_cons
def aY1:=@Nat.mod_lt
def bf9:=@Go.Proofs.Tryz.underlying102
def aZ0:=@Bool.false_eq_true
def bh8:=@Nat.lt_irrefl
def aY3:=@Go.IntKind.wrap_u16
def aY4:=@List.getElem?_append_right
def ai:=@Go.Maps.int_keyed
def aZ7:=@Bool.and_eq_true
def aY5:=@List.getElem?_cons_zero
def aY6:=@List.flatMap_cons
def aZ1:=@List.map_cons
def aZ5:=@Go.Proofs.Tryz.underlying200
def aZ8:=@Array.getElem?_eq_getElem
def aY9:=@ByteArray.data_extract
def aY7:=@Go.Proofs.Tryz.underlying5
def aZ3:=@Go.RowKit.Below.alloc
def ba1:=@Nat.le_of_lt
def ba2:=@List.map_append
def aY8:=@Go.run_convert_bytes_back
def ba3:=@Bool.or_eq_false_iff
def aY2:=@Go.wpAnyH_done
def ba4:=@List.cons_append
def ba5:=@decide_eq_false_iff_not
def ba6:=@Go.frozen_of_row
def bd8:=@Go.run_underlying
def ba7:=@Go.Result.andThen_ok
def ba8:=@Go.IntKind.wrap_u32'
def ba9:=@List.toList_toArray
def be5:=@List.nil_append
def bb4:=@List.getElem?_append_left
def be1:=@List.getElem?_eq_none
def bb5:=@UInt8.toNat_ofNat'
def bd3:=@Nat.zero_add
def bb7:=@Go.Sem.run_bind
def bf5:=@Go.Proofs.Tryz.underlying44
def aj:=@Go.Proofs.Tryz.underlying96
def ak:=@List.getElem?_take_of_lt
def bg2:=@congrArg
def be8:=@decide_eq_true_eq
def bb9:=@Array.getElem?_setIfInBounds
def bc9:=@Go.RowKit.Below.drew
def bd0:=@List.length_map
def bd9:=@if_false
def bh6:=@List.any_cons
def bg5:=@Nat.mul_one
def bd6:=@Int.tmod_eq_emod_of_nonneg
def bd7:=@Array.toList_setIfInBounds
def be0:=@List.set_append_right
def be3:=@List.getElem?_eq_some_iff
def be4:=@List.pairwise_iff_getElem
def bc8:=@List.length_set
def be6:=@List.getElem?_map
def bQ:=@of_decide_eq_true
def be7:=@List.map_nil
def be9:=@if_true
def bg1:=@List.ext_getElem?
def bf0:=@UInt8.toNat_ofNat_of_lt'
def bg0:=@Go.Proofs.Tryz.underlying269
def bh4:=@beq_eq_false_iff_ne
def bf1:=@List.map_congr_left
def bh0:=@List.filter_cons
def bf2:=@Go.IntKind.wrap_i64
def bf3:=@List.eq_nil_of_length_eq_zero
def bf4:=@Go.Sem.run_pure
def bf6:=@Nat.xor_lt_two_pow
def bf7:=@ByteArray.size_extract
def bf8:=@UInt8.toNat_inj
def dV:=@List.mem_append
def bh5:=@List.sum_cons
def au:=@Array.getElem?_modify
def bg3:=@Nat.le_succ
def bg6:=@Go.RowKit.Below.trans
def bh9:=@Go.Proofs.Tryz.ntmps100
def bg7:=@Array.toList_extract
def bg8:=@Int.tdiv_eq_ediv_of_nonneg
def bj3:=@List.mem_map
def bg9:=@Nat.mod_eq_of_lt
def bi6:=@Nat.add_zero
def bh3:=@Go.Lib.run_append_own_string
def bh7:=@ByteArray.ext
def bi0:=@List.sum_append
def bi1:=@Nat.min_eq_left
def bi2:=@Array.ext'
def bi3:=@List.getElem?_take
def bi4:=@List.mem_singleton
def bb8:=@Go.one_setCell
def bi5:=@Go.u32_xor_nat
def bi7:=@UInt8.toNat_lt
def ax:=@Go.Proofs.Tryz.func100
def bi8:=@List.take_left
def bi9:=@List.drop_length
def ay:=@List.all_eq_true
def az:=@Go.results_cell_row
def bj0:=@Bool.or_false
def fM:=@List.mem_cons
def bj1:=@List.any_append
def bj2:=@List.take_left'
def bj4:=@getElem!_pos
def bj5:=@Go.wp_seq_k
end Go.Proofs.YtdgacidndknceaaGreatDoor
