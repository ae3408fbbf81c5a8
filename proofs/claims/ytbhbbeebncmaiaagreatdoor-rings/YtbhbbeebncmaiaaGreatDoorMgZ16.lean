import Derived.Test.YtbhbbeebncmaiaaGreatDoorMgZ46
import Derived.Test.YtbhbbeebncmaiaaGreatDoorMgZ10
namespace Go.Proofs.YtbhbbeebncmaiaaGreatDoor.Dh
open Go.ChangeShapes Go.WideShapes Go.ChangeAt Go.RowKit Bs
open Rd (Rdr errP must_if must_else)
set_option linter.unusedVariables false
set_option linter.unusedSimpArgs false
theorem infoS:(Tryz.prog.info? 9).map (fun i=>(i.zero,i.size,i.bytes))=some (some (.string ⟨#[]⟩),1,16):=by kernel_rfl
theorem data_52 (a:Option Addr) (cap:Nat) (os:Opts) (w:World) (hA:At w a os) (hl:heavy os≤268435456) :
  Calls Tryz.prog 279 #[.slice a os.length cap,.int .u8 52] w fun e w' =>
   e=.returned (.tuple #[.string ⟨(data os 52).toArray⟩,.bool (has os 52)])∧Below w.heap.size w w':=data_any a cap os 52 w hA hl
theorem without_52 (a:Option Addr) (cap:Nat) (os:Opts) (w:World) (hA:At w a os) (hl:heavy os≤268435456) :
  Calls Tryz.prog 305 #[.slice a os.length cap,.int .u8 52] w fun e w' =>
   ∃ v,e=.returned v∧w'.ownsRow w.heap.size 151 2 v (drop os 52).length (cellsO (drop os 52))∧Below w.heap.size w w':=without_any a cap os 52 w hA hl

def areaS (d:List UInt8) (host file:ByteArray):List ByteArray:=(if inF d then [file] else [])++(if inH d then [host] else [])
def AreaPost (os:Opts) (host file:ByteArray) (w:World) (e:Ending) (w':World):Prop :=
 Below w.heap.size w w'∧(if has os 52 then (if areaD (data os 52) then ∃ v,e=.returned v∧w'.ownsRow w.heap.size 9 1 v (areaS (data os 52) host file).length ((areaS (data os 52) host file).map Value.string) else e=.panicked (errP 2)) else e=.returned (.slice none 0 0))

set_option maxHeartbeats 4000000 in
set_option maxRecDepth 10000 in
theorem areas_any (a:Option Addr) (cap:Nat) (os:Opts) (host file:ByteArray) (w:World) (hA:At w a os) (hl:heavy os≤268435456) :
  Calls Tryz.prog 304 #[.slice a os.length cap,.string host,.string file] w fun e w'=>AreaPost os host file w e w':=by
 obtain ⟨i0,hi,hz0,hz1,hz2⟩:=info_parts infoS
 have HD:=hide (data_52 a cap os w hA hl)
 unfold AreaPost
 obtain ⟨d,hd⟩:∃ d,d=data os 52:=⟨_,rfl⟩
 obtain ⟨p,hp⟩:∃ p,p=has os 52:=⟨_,rfl⟩
 rw [← hd,← hp] at HD ⊢
 clear hA hd hp
 cases p with
 | false =>
  go_enter Tryz.func304,Tryz.ntmps304
  go_wp2_with fail
  refine (unhide HD).mono ?_
  rintro e w1 ⟨rfl,hb1⟩
  have HB1:=hide hb1
  have hz1w:=hb1.size
  clear hb1 HD
  go_wp2
  go_ret
  exact ⟨unhide HB1,rfl⟩
 | true =>
  match d with
  | [] =>
   go_enter Tryz.func304,Tryz.ntmps304
   go_wp2_with fail
   refine (unhide HD).mono ?_
   rintro e w1 ⟨rfl,hb1⟩
   have HB1:=hide hb1
   have hz1w:=hb1.size
   clear hb1 HD
   go_wp2_with fail
   refine (must_else _ (by simp) _ _).mono ?_
   rintro e w2 ⟨rfl,rfl⟩
   exact ⟨rfl,unhide HB1,rfl⟩
  | x::y::r =>
   have hsz:(⟨(x::y::r).toArray⟩:ByteArray).size=r.length+2:=by rw [str_size]; simp
   obtain ⟨s,hs⟩:∃ s:ByteArray,s=⟨(x::y::r).toArray⟩:=⟨_,rfl⟩
   rw [← hs] at hsz HD
   have hne:((s.size:Int)==1)=false:=by simp; omega
   clear hs hsz
   go_enter Tryz.func304,Tryz.ntmps304
   go_wp2_with fail
   refine (unhide HD).mono ?_
   rintro e w1 ⟨rfl,hb1⟩
   have HB1:=hide hb1
   have hz1w:=hb1.size
   clear hb1 HD
   go_wp2_with fail
   refine (must_else _ (by simp) _ _).mono ?_
   rintro e w2 ⟨rfl,rfl⟩
   exact ⟨rfl,unhide HB1,rfl⟩
  | [x] =>
   have hx8:=x.toNat_lt
   have hix:∀ u,(Instr.index 9 (.string ⟨#[x]⟩) (.int .i64 0)).run Tryz.prog u=.ok (.int .u8 x.toNat) u:=fun _=>by kernel_rfl
   by_cases hok:1≤x.toNat∧x.toNat≤3
   ·have hcase:x.toNat=1∨x.toNat=2∨x.toNat=3:=by omega
    have hAD:areaD [x]=true:=by simp [areaD,hok]
    rw [hAD]
    rcases hcase with e0 | e0 | e0
    ·rw [e0] at hix
     have hS:areaS [x] host file=[file]:=by simp [areaS,inF,inH,e0]
     rw [hS]
     clear hok hAD e0 hx8 hS
     go_enter Tryz.func304,Tryz.ntmps304
     go_wp2_with fail
     refine (unhide HD).mono ?_
     rintro e w1 ⟨rfl,hb1⟩
     have HB1:=hide hb1
     have hz1w:=hb1.size
     clear hb1 HD
     go_wp2_with fail
     refine (must_if _ (by simp) _ _).mono ?_
     rintro e w2 ⟨rfl,rfl⟩
     go_wp2_with (at_builtin; refine wpList_append_own _ rfl (.tmp 35) (.tmp 37) 49 rfl w.heap.size 9 i0 (.string ⟨#[]⟩) 1 16 Tryz.underlying49 hi hz0 hz1 hz2 rfl (by decide) _ 0 [] rfl ((World.ownsRow_nil _ _ _ _)) ⟨w2.heap.size,0,none⟩ 1 1 [.string file] rfl rfl ?c1 ?one ?h63 ?hby ?hba ?_)
     case c1=>exact cell_new w2 [.string file] 9
     case one=>intro u hu; simp at hu; subst hu; rfl
     case h63=>simp only [maxLen]; omega
     case hby=>omega
     case hba=>simp; omega
     ·intro A wA hownA hgA _
      obtain ⟨ao,cp,hv⟩:=own_slice hownA
      subst hv
      have hBB:Below w.heap.size w wA:=((unhide HB1).alloc hz1w _).grown hgA (by simp; omega) (fun k hk=>by simp [Value.ownBlock] at hk)
      have OO:=hide hownA
      have BB:=hide hBB
      clear hownA hgA hBB
      go_wp2
      go_ret
      exact ⟨unhide BB,_,rfl,unhide OO⟩
    ·rw [e0] at hix
     have hS:areaS [x] host file=[host]:=by simp [areaS,inF,inH,e0]
     rw [hS]
     clear hok hAD e0 hx8 hS
     go_enter Tryz.func304,Tryz.ntmps304
     go_wp2_with fail
     refine (unhide HD).mono ?_
     rintro e w1 ⟨rfl,hb1⟩
     have HB1:=hide hb1
     have hz1w:=hb1.size
     clear hb1 HD
     go_wp2_with fail
     refine (must_if _ (by simp) _ _).mono ?_
     rintro e w2 ⟨rfl,rfl⟩
     go_wp2_with (at_builtin; refine wpList_append_own _ rfl (.tmp 43) (.tmp 45) 49 rfl w.heap.size 9 i0 (.string ⟨#[]⟩) 1 16 Tryz.underlying49 hi hz0 hz1 hz2 rfl (by decide) _ 0 [] rfl ((World.ownsRow_nil _ _ _ _)) ⟨w2.heap.size,0,none⟩ 1 1 [.string host] rfl rfl ?c1 ?one ?h63 ?hby ?hba ?_)
     case c1=>exact cell_new w2 [.string host] 9
     case one=>intro u hu; simp at hu; subst hu; rfl
     case h63=>simp only [maxLen]; omega
     case hby=>omega
     case hba=>simp; omega
     ·intro A wA hownA hgA _
      obtain ⟨ao,cp,hv⟩:=own_slice hownA
      subst hv
      have hBB:Below w.heap.size w wA:=((unhide HB1).alloc hz1w _).grown hgA (by simp; omega) (fun k hk=>by simp [Value.ownBlock] at hk)
      have OO:=hide hownA
      have BB:=hide hBB
      clear hownA hgA hBB
      go_wp2
      go_ret
      exact ⟨unhide BB,_,rfl,unhide OO⟩
    ·rw [e0] at hix
     have hS:areaS [x] host file=[file,host]:=by simp [areaS,inF,inH,e0]
     rw [hS]
     clear hok hAD e0 hx8 hS
     go_enter Tryz.func304,Tryz.ntmps304
     go_wp2_with fail
     refine (unhide HD).mono ?_
     rintro e w1 ⟨rfl,hb1⟩
     have HB1:=hide hb1
     have hz1w:=hb1.size
     clear hb1 HD
     go_wp2_with fail
     refine (must_if _ (by simp) _ _).mono ?_
     rintro e w2 ⟨rfl,rfl⟩
     go_wp2_with (at_builtin; refine wpList_append_own _ rfl (.tmp 35) (.tmp 37) 49 rfl w.heap.size 9 i0 (.string ⟨#[]⟩) 1 16 Tryz.underlying49 hi hz0 hz1 hz2 rfl (by decide) _ 0 [] rfl ((World.ownsRow_nil _ _ _ _)) ⟨w2.heap.size,0,none⟩ 1 1 [.string file] rfl rfl ?c1 ?one ?h63 ?hby ?hba ?_)
     case c1=>exact cell_new w2 [.string file] 9
     case one=>intro u hu; simp at hu; subst hu; rfl
     case h63=>simp only [maxLen]; omega
     case hby=>omega
     case hba=>simp; omega
     ·intro A wA hownA hgA _
      obtain ⟨ao,cp,hv⟩:=own_slice hownA
      have hBA:Below w.heap.size w wA:=((unhide HB1).alloc hz1w _).grown hgA (by simp; omega) (fun k hk=>by simp [Value.ownBlock] at hk)
      have hzA:=hBA.size
      have OA:=hide hownA
      have BA:=hide hBA
      clear hownA hgA hBA
      subst hv
      go_wp2_with (at_builtin; refine wpList_append_own _ rfl (.tmp 43) (.tmp 45) 49 rfl w.heap.size 9 i0 (.string ⟨#[]⟩) 1 16 Tryz.underlying49 hi hz0 hz1 hz2 rfl (by decide) _ 1 [.string file] rfl (((unhide OA).alloc _)) ⟨wA.heap.size,0,none⟩ 1 1 [.string host] rfl rfl ?c1 ?one ?h63 ?hby ?hba ?_)
      case c1=>exact cell_new wA [.string host] 9
      case one=>intro u hu; simp at hu; subst hu; rfl
      case h63=>simp only [maxLen]; omega
      case hby=>omega
      case hba=>simp; omega
      ·intro B wB hownB hgB _
       obtain ⟨ao,cp,hv⟩:=own_slice hownB
       subst hv
       have hBB:Below w.heap.size w wB:=((unhide BA).alloc hzA _).grown hgB (by simp; omega) (fun k hk=>((unhide OA).lt k hk).1)
       have OO:=hide hownB
       have BB:=hide hBB
       clear hownB hgB hBB
       go_wp2
       go_ret
       exact ⟨unhide BB,_,rfl,unhide OO⟩
   ·have hAD:areaD [x]=false:=by simp [areaD]; omega
    rw [hAD]
    by_cases e0:x.toNat=0
    ·rw [e0] at hix
     clear hok hAD e0 hx8
     go_enter Tryz.func304,Tryz.ntmps304
     go_wp2_with fail
     refine (unhide HD).mono ?_
     rintro e w1 ⟨rfl,hb1⟩
     have HB1:=hide hb1
     have hz1w:=hb1.size
     clear hb1 HD
     go_wp2_with fail
     refine (must_else _ (by simp) _ _).mono ?_
     rintro e w2 ⟨rfl,rfl⟩
     exact ⟨rfl,unhide HB1,rfl⟩
    ·have q0:(((x.toNat:Nat):Int) != 0)=true:=by simp; omega
     have q1:¬ ((x.toNat:Nat):Int)≤3:=by omega
     clear hok hAD e0 hx8
     go_enter Tryz.func304,Tryz.ntmps304
     go_wp2_with fail
     refine (unhide HD).mono ?_
     rintro e w1 ⟨rfl,hb1⟩
     have HB1:=hide hb1
     have hz1w:=hb1.size
     clear hb1 HD
     go_wp2_with fail
     refine (must_else _ (by simp; omega) _ _).mono ?_
     rintro e w2 ⟨rfl,rfl⟩
     exact ⟨rfl,unhide HB1,rfl⟩
end Go.Proofs.YtbhbbeebncmaiaaGreatDoor.Dh
namespace Go.Proofs.YtbhbbeebncmaiaaGreatDoor.EtR
open Go.ChangeShapes Go.WideShapes Go.ChangeAt Go.RowKit Bs Rd
set_option linter.unusedVariables false
set_option maxHeartbeats 1000000 in
theorem wire_of (s:ByteArray) (a0 a1 a2 a3 a4 a5 a6 a7 a8 a9 a10 a11 a12:Int) (a13:ByteArray) (k:Int) (w:World)
  (hR:∀ u:World,Calls Tryz.prog 138 #[.string s,.func (.func 139) #[] #[]] u fun ee w'=>ee=.returned (.tuple #[.agg #[.int .u8 a0,.int .u8 a1,.int .u8 a2,.int .u8 a3,.int .u8 a4,.int .u8 a5,.int .u8 a6,.int .u8 a7,.int .u8 a8,.int .u8 a9,.int .u8 a10,.int .u8 a11,.int .u16 a12,.string a13],.int .i64 k])∧Below u.heap.size u w') :
  Calls Tryz.prog 98 #[.string s] w fun ee w'=>ee=.returned (.tuple #[.agg #[.int .u8 a0,.int .u8 a1,.int .u8 a2,.int .u8 a3,.int .u8 a4,.int .u8 a5,.int .u8 a6,.int .u8 a7,.int .u8 a8,.int .u8 a9,.int .u8 a10,.int .u8 a11,.int .u16 a12,.string a13],.int .i64 k])∧Below w.heap.size w w':=by
 have HR:=hide hR
 clear hR
 go_enter Tryz.func98,Tryz.ntmps98
 go_wp2_with fail
 refine (unhide HR _).mono ?_
 rintro ee w1 ⟨rfl,hb⟩
 have hr:w1.heap[w.heap.size]?=some (.cells #[.int .u8 0,.int .u8 0,.int .u8 0,.int .u8 0,.int .u8 0,.int .u8 0,.int .u8 0,.int .u8 0,.int .u8 0,.int .u8 0,.int .u8 0,.int .u8 0,.int .u16 0,.string ⟨#[]⟩] 111 (0,0)):=(hb.block _ (by simp)).trans (heap_alloc_new w _)
 have d0:w1.cell? ⟨w.heap.size,0,none⟩=some (.int .u8 0):=row_cell hr rfl
 have d1:w1.cell? ⟨w.heap.size,1,none⟩=some (.int .u8 0):=row_cell hr rfl
 have d2:w1.cell? ⟨w.heap.size,2,none⟩=some (.int .u8 0):=row_cell hr rfl
 have d3:w1.cell? ⟨w.heap.size,3,none⟩=some (.int .u8 0):=row_cell hr rfl
 have d4:w1.cell? ⟨w.heap.size,4,none⟩=some (.int .u8 0):=row_cell hr rfl
 have d5:w1.cell? ⟨w.heap.size,5,none⟩=some (.int .u8 0):=row_cell hr rfl
 have d6:w1.cell? ⟨w.heap.size,6,none⟩=some (.int .u8 0):=row_cell hr rfl
 have d7:w1.cell? ⟨w.heap.size,7,none⟩=some (.int .u8 0):=row_cell hr rfl
 have d8:w1.cell? ⟨w.heap.size,8,none⟩=some (.int .u8 0):=row_cell hr rfl
 have d9:w1.cell? ⟨w.heap.size,9,none⟩=some (.int .u8 0):=row_cell hr rfl
 have d10:w1.cell? ⟨w.heap.size,10,none⟩=some (.int .u8 0):=row_cell hr rfl
 have d11:w1.cell? ⟨w.heap.size,11,none⟩=some (.int .u8 0):=row_cell hr rfl
 have d12:w1.cell? ⟨w.heap.size,12,none⟩=some (.int .u16 0):=row_cell hr rfl
 have d13:w1.cell? ⟨w.heap.size,13,none⟩=some (.string ⟨#[]⟩):=row_cell hr rfl
 have fr:=row_free hr
 have HB:Hid (Below w.heap.size w w1):=hide (((Below.refl _ w).alloc (Nat.le_refl _) _).trans (hb.mono (by simp)))
 obtain ⟨U,hU⟩:∃ U,U=((((((((((((((w1.setCell ⟨w.heap.size,0,none⟩ (.int .u8 a0)).setCell ⟨w.heap.size,1,none⟩ (.int .u8 a1)).setCell ⟨w.heap.size,2,none⟩ (.int .u8 a2)).setCell ⟨w.heap.size,3,none⟩ (.int .u8 a3)).setCell ⟨w.heap.size,4,none⟩ (.int .u8 a4)).setCell ⟨w.heap.size,5,none⟩ (.int .u8 a5)).setCell ⟨w.heap.size,6,none⟩ (.int .u8 a6)).setCell ⟨w.heap.size,7,none⟩ (.int .u8 a7)).setCell ⟨w.heap.size,8,none⟩ (.int .u8 a8)).setCell ⟨w.heap.size,9,none⟩ (.int .u8 a9)).setCell ⟨w.heap.size,10,none⟩ (.int .u8 a10)).setCell ⟨w.heap.size,11,none⟩ (.int .u8 a11)).setCell ⟨w.heap.size,12,none⟩ (.int .u16 a12)).setCell ⟨w.heap.size,13,none⟩ (.string a13)):=⟨_,rfl⟩
 have hu:U.heap[w.heap.size]?=some (.cells #[.int .u8 a0,.int .u8 a1,.int .u8 a2,.int .u8 a3,.int .u8 a4,.int .u8 a5,.int .u8 a6,.int .u8 a7,.int .u8 a8,.int .u8 a9,.int .u8 a10,.int .u8 a11,.int .u16 a12,.string a13] 111 (0,0)):=by
  rw [hU]
  exact row_set14 _ _ _ _ _ _ _ _ _ _ _ _ _ _ _ _ _ _ _ _ _ _ _ _ _ _ _ _ hr
 have HBU:Hid (Below w.heap.size w U):=by
  show Below w.heap.size w U
  rw [hU]
  iterate 14 refine below_at ?_
  exact unhide HB
 have u0:U.cell? ⟨w.heap.size,0,none⟩=some (.int .u8 a0):=row_cell hu rfl
 have u1:U.cell? ⟨w.heap.size,1,none⟩=some (.int .u8 a1):=row_cell hu rfl
 have u2:U.cell? ⟨w.heap.size,2,none⟩=some (.int .u8 a2):=row_cell hu rfl
 have u3:U.cell? ⟨w.heap.size,3,none⟩=some (.int .u8 a3):=row_cell hu rfl
 have u4:U.cell? ⟨w.heap.size,4,none⟩=some (.int .u8 a4):=row_cell hu rfl
 have u5:U.cell? ⟨w.heap.size,5,none⟩=some (.int .u8 a5):=row_cell hu rfl
 have u6:U.cell? ⟨w.heap.size,6,none⟩=some (.int .u8 a6):=row_cell hu rfl
 have u7:U.cell? ⟨w.heap.size,7,none⟩=some (.int .u8 a7):=row_cell hu rfl
 have u8:U.cell? ⟨w.heap.size,8,none⟩=some (.int .u8 a8):=row_cell hu rfl
 have u9:U.cell? ⟨w.heap.size,9,none⟩=some (.int .u8 a9):=row_cell hu rfl
 have u10:U.cell? ⟨w.heap.size,10,none⟩=some (.int .u8 a10):=row_cell hu rfl
 have u11:U.cell? ⟨w.heap.size,11,none⟩=some (.int .u8 a11):=row_cell hu rfl
 have u12:U.cell? ⟨w.heap.size,12,none⟩=some (.int .u16 a12):=row_cell hu rfl
 have u13:U.cell? ⟨w.heap.size,13,none⟩=some (.string a13):=row_cell hu rfl
 have HU:=hide hU
 clear hr hu hU hb HR
 go_wp2
 rw [← unhide HU]
 clear HU d0 d1 d2 d3 d4 d5 d6 d7 d8 d9 d10 d11 d12 d13 fr
 exact bodyPost_ret (v:=.tuple #[.agg #[.int .u8 a0,.int .u8 a1,.int .u8 a2,.int .u8 a3,.int .u8 a4,.int .u8 a5,.int .u8 a6,.int .u8 a7,.int .u8 a8,.int .u8 a9,.int .u8 a10,.int .u8 a11,.int .u16 a12,.string a13],.int .i64 k]) (by simp [results,Tryz.results98,go_sem,u0,u1,u2,u3,u4,u5,u6,u7,u8,u9,u10,u11,u12,u13]) rfl ⟨rfl,unhide HBU⟩

end Go.Proofs.YtbhbbeebncmaiaaGreatDoor.EtR
