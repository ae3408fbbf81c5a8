import Derived.Test.YtnbaacgmlbhhcaaGreatDoorMg13
import Derived.Test.YtnbaacgmlbhhcaaGreatDoorMg34
import Derived.Lib.ItoaNum
import Derived.Lib.LaidTab
set_option linter.all false
set_option maxHeartbeats 4000000
set_option maxRecDepth 10000
open Go.ChangeShapes Go.WideShapes Go.ChangeAt Go.RowKit
open Go renaming World → kV
open Go.Proofs.Tryz renaming prog → aD1
open Go.Proofs.Tryz
namespace Go.Proofs.YtnbaacgmlbhhcaaGreatDoor
namespace Nu
open Bs
open oh (Nb uw zZ U4 tu vT)
structure Lc where
 bm:Nat
 cg:Nat
 cf:Nat
 gg:Nat
 gf:Nat
 img:Value
structure Sd where
 rx:Nat
 tx:Nat
 cq:List XB
 gq:List XB
 cl:List (Int×Nb)
 im:XU
structure S extends Sd where
 k0:UInt8
 k1:UInt8
 k2:UInt8
 k3:UInt8
 k4:UInt8
 k5:UInt8
 name:XB
 cap:Int
 mJ:XB
 blk:Int
 win:Int
 now:Int
 draw:Int
 lost:Int
 id:Int
 qV:Int
 st:Int
 lM:Int
 nZ:Int
 qJ:Int
 ws:Int
 wu:Int
 gr:Int
 mask:Int
 sV:Int
 pz:Int
 ends:Bool
 old:Int
 qA:Int
 over:Int
 asked:Int
 phase:Int
 port:Int
 oJ:Int
 nK:Int
 oL:Int
 since:Int
 pU:Int
 sF:Int
 sT:Int
 sL:XB
 fs:Int
 fu:Int
def cells(l:Lc)(s:S):XV:=#[.map (some l.bm),.int .u8 s.k0.toNat,.int .u8 s.k1.toNat,.int .u8 s.k2.toNat,.int .u8 s.k3.toNat,.int .u8 s.k4.toNat,.int .u8 s.k5.toNat,.string s.name,
 .int .i64 s.cap,.string s.mJ,.int .i64 s.blk,.int .i64 s.win,.int .i64 s.rx,.int .i64 s.tx,.int .i64 s.now,.int .u32 s.draw,
 .slice (some (a_ l.cg 0)) s.rx s.rx,.int .i64 l.cf,.int .i64 s.cq.length,.slice (some (a_ l.gg 0)) s.tx s.tx,.int .i64 l.gf,.int .i64 s.gq.length,.int .i64 s.lost,.int .u16 s.id,
 .int .i64 s.qV,.int .i64 s.st,.int .u32 s.lM,.int .u32 s.nZ,.int .u32 s.qJ,.int .i64 s.ws,.int .i64 s.wu,.int .i64 s.gr,
 .int .u32 s.mask,.int .u32 s.sV,.int .u32 s.pz,.bool s.ends,.int .u32 s.old,.int .u32 s.qA,.int .u32 s.over,.int .i64 s.asked,
 .int .i64 s.phase,.int .u16 s.port,.int .u16 s.oJ,.int .i64 s.nK,.int .i64 s.oL,.int .i64 s.since,.int .u16 s.pU,.int .u16 s.sF,
 .int .u16 s.sT,.string s.sL,.int .i64 s.fs,.int .i64 s.fu,l.img]
@[go_sem] theorem cells_0 (l:Lc) (s:S):(cells l s)[(0:Nat)]?=some (.map (some l.bm)):=rfl
@[go_sem] theorem cells_1 (l:Lc) (s:S):(cells l s)[(1:Nat)]?=some (.int .u8 s.k0.toNat):=rfl
@[go_sem] theorem cells_2 (l:Lc) (s:S):(cells l s)[(2:Nat)]?=some (.int .u8 s.k1.toNat):=rfl
@[go_sem] theorem cells_3 (l:Lc) (s:S):(cells l s)[(3:Nat)]?=some (.int .u8 s.k2.toNat):=rfl
@[go_sem] theorem cells_4 (l:Lc) (s:S):(cells l s)[(4:Nat)]?=some (.int .u8 s.k3.toNat):=rfl
@[go_sem] theorem cells_5 (l:Lc) (s:S):(cells l s)[(5:Nat)]?=some (.int .u8 s.k4.toNat):=rfl
@[go_sem] theorem cells_6 (l:Lc) (s:S):(cells l s)[(6:Nat)]?=some (.int .u8 s.k5.toNat):=rfl
@[go_sem] theorem cells_7 (l:Lc) (s:S):(cells l s)[(7:Nat)]?=some (.string s.name):=rfl
@[go_sem] theorem cells_8 (l:Lc) (s:S):(cells l s)[(8:Nat)]?=some (.int .i64 s.cap):=rfl
@[go_sem] theorem cells_9 (l:Lc) (s:S):(cells l s)[(9:Nat)]?=some (.string s.mJ):=rfl
@[go_sem] theorem cells_10 (l:Lc) (s:S):(cells l s)[(10:Nat)]?=some (.int .i64 s.blk):=rfl
@[go_sem] theorem cells_11 (l:Lc) (s:S):(cells l s)[(11:Nat)]?=some (.int .i64 s.win):=rfl
@[go_sem] theorem cells_12 (l:Lc) (s:S):(cells l s)[(12:Nat)]?=some (.int .i64 s.rx):=rfl
@[go_sem] theorem cells_13 (l:Lc) (s:S):(cells l s)[(13:Nat)]?=some (.int .i64 s.tx):=rfl
@[go_sem] theorem cells_14 (l:Lc) (s:S):(cells l s)[(14:Nat)]?=some (.int .i64 s.now):=rfl
@[go_sem] theorem cells_15 (l:Lc) (s:S):(cells l s)[(15:Nat)]?=some (.int .u32 s.draw):=rfl
@[go_sem] theorem cells_16 (l:Lc) (s:S):(cells l s)[(16:Nat)]?=some (.slice (some (a_ l.cg 0)) s.rx s.rx):=rfl
@[go_sem] theorem cells_17 (l:Lc) (s:S):(cells l s)[(17:Nat)]?=some (.int .i64 l.cf):=rfl
@[go_sem] theorem cells_18 (l:Lc) (s:S):(cells l s)[(18:Nat)]?=some (.int .i64 s.cq.length):=rfl
@[go_sem] theorem cells_19 (l:Lc) (s:S):(cells l s)[(19:Nat)]?=some (.slice (some (a_ l.gg 0)) s.tx s.tx):=rfl
@[go_sem] theorem cells_20 (l:Lc) (s:S):(cells l s)[(20:Nat)]?=some (.int .i64 l.gf):=rfl
@[go_sem] theorem cells_21 (l:Lc) (s:S):(cells l s)[(21:Nat)]?=some (.int .i64 s.gq.length):=rfl
@[go_sem] theorem cells_22 (l:Lc) (s:S):(cells l s)[(22:Nat)]?=some (.int .i64 s.lost):=rfl
@[go_sem] theorem cells_23 (l:Lc) (s:S):(cells l s)[(23:Nat)]?=some (.int .u16 s.id):=rfl
@[go_sem] theorem cells_24 (l:Lc) (s:S):(cells l s)[(24:Nat)]?=some (.int .i64 s.qV):=rfl
@[go_sem] theorem cells_25 (l:Lc) (s:S):(cells l s)[(25:Nat)]?=some (.int .i64 s.st):=rfl
@[go_sem] theorem cells_26 (l:Lc) (s:S):(cells l s)[(26:Nat)]?=some (.int .u32 s.lM):=rfl
@[go_sem] theorem cells_27 (l:Lc) (s:S):(cells l s)[(27:Nat)]?=some (.int .u32 s.nZ):=rfl
@[go_sem] theorem cells_28 (l:Lc) (s:S):(cells l s)[(28:Nat)]?=some (.int .u32 s.qJ):=rfl
@[go_sem] theorem cells_29 (l:Lc) (s:S):(cells l s)[(29:Nat)]?=some (.int .i64 s.ws):=rfl
@[go_sem] theorem cells_30 (l:Lc) (s:S):(cells l s)[(30:Nat)]?=some (.int .i64 s.wu):=rfl
@[go_sem] theorem cells_31 (l:Lc) (s:S):(cells l s)[(31:Nat)]?=some (.int .i64 s.gr):=rfl
@[go_sem] theorem cells_32 (l:Lc) (s:S):(cells l s)[(32:Nat)]?=some (.int .u32 s.mask):=rfl
@[go_sem] theorem cells_33 (l:Lc) (s:S):(cells l s)[(33:Nat)]?=some (.int .u32 s.sV):=rfl
@[go_sem] theorem cells_34 (l:Lc) (s:S):(cells l s)[(34:Nat)]?=some (.int .u32 s.pz):=rfl
@[go_sem] theorem cells_35 (l:Lc) (s:S):(cells l s)[(35:Nat)]?=some (.bool s.ends):=rfl
@[go_sem] theorem cells_36 (l:Lc) (s:S):(cells l s)[(36:Nat)]?=some (.int .u32 s.old):=rfl
@[go_sem] theorem cells_37 (l:Lc) (s:S):(cells l s)[(37:Nat)]?=some (.int .u32 s.qA):=rfl
@[go_sem] theorem cells_38 (l:Lc) (s:S):(cells l s)[(38:Nat)]?=some (.int .u32 s.over):=rfl
@[go_sem] theorem cells_39 (l:Lc) (s:S):(cells l s)[(39:Nat)]?=some (.int .i64 s.asked):=rfl
@[go_sem] theorem cells_40 (l:Lc) (s:S):(cells l s)[(40:Nat)]?=some (.int .i64 s.phase):=rfl
@[go_sem] theorem cells_41 (l:Lc) (s:S):(cells l s)[(41:Nat)]?=some (.int .u16 s.port):=rfl
@[go_sem] theorem cells_42 (l:Lc) (s:S):(cells l s)[(42:Nat)]?=some (.int .u16 s.oJ):=rfl
@[go_sem] theorem cells_43 (l:Lc) (s:S):(cells l s)[(43:Nat)]?=some (.int .i64 s.nK):=rfl
@[go_sem] theorem cells_44 (l:Lc) (s:S):(cells l s)[(44:Nat)]?=some (.int .i64 s.oL):=rfl
@[go_sem] theorem cells_45 (l:Lc) (s:S):(cells l s)[(45:Nat)]?=some (.int .i64 s.since):=rfl
@[go_sem] theorem cells_46 (l:Lc) (s:S):(cells l s)[(46:Nat)]?=some (.int .u16 s.pU):=rfl
@[go_sem] theorem cells_47 (l:Lc) (s:S):(cells l s)[(47:Nat)]?=some (.int .u16 s.sF):=rfl
@[go_sem] theorem cells_48 (l:Lc) (s:S):(cells l s)[(48:Nat)]?=some (.int .u16 s.sT):=rfl
@[go_sem] theorem cells_49 (l:Lc) (s:S):(cells l s)[(49:Nat)]?=some (.string s.sL):=rfl
@[go_sem] theorem cells_50 (l:Lc) (s:S):(cells l s)[(50:Nat)]?=some (.int .i64 s.fs):=rfl
@[go_sem] theorem cells_51 (l:Lc) (s:S):(cells l s)[(51:Nat)]?=some (.int .i64 s.fu):=rfl
@[go_sem] theorem cells_52 (l:Lc) (s:S):(cells l s)[(52:Nat)]?=some (l.img):=rfl
def mZ(w:kV)(g n f:Nat)(q:List XB):Prop:=
 0<n/\n<=16/\f<n/\q.length<=n/\∃arr:XV,w.heap[g]?=some (.cells arr 9 (0,0))/\arr.size=n/\∀i (h:i<q.length),arr[(f+i)%n]?=some (.string q[i])
def lI(B:Nat)(l:Lc)(k:Nat):Prop:=k=B∨k=l.bm∨k=l.cg∨k=l.gg∨l.img.ownBlock=some k
structure Gl (w:kV):Prop where
 al:∀j,j<6->w.cell? (a_ 1 j)=some (.int .u8 255)
 ra:∀j,j<6->w.cell? (a_ 0 j)=some (.int .u8 255)
 tb:Lib.TabIs aD1 w "internal/strconv.uint64pow10" .u64 Lib.pow10Tab
 te:∀g,g=6∨g=7->∃v,w.cell? (a_ g 0)=some v/\(v=.nilIface∨∃t p,v=.iface t p)
 rg:∃t z,w.heap[(8:Nat)]?=some (.cells ((List.range 64).map fun j=>Value.int .u32 (Hs.kN j)).toArray t z)
def Gl.of{w w':kV}(h:Gl w)(e:∀k,k<9->w'.heap[k]?=w.heap[k]?):Gl w' where
 al:=fun j hj=>by rw[bC (e _ (show 1<9 by decide))];exact h.al j hj
 ra:=fun j hj=>by rw[bC (e _ (show 0<9 by decide))];exact h.ra j hj
 tb:=by
  have q:=h.tb;unfold Lib.TabIs World.var? at q ⊢;rw[show(aD1).globalNamed "internal/strconv.uint64pow10" =some 2 by kernel_rfl]at q ⊢;simp only[Option.bind_some]at q ⊢;rw[e _ (by decide)];exact q
 te:=fun g hg=>by rw[bC (e g (by omega))];exact h.te g hg
 rg:=by rw[e _ (by decide)];exact h.rg
structure Mw (w0:kV) (P:Nat->Prop) (w:kV) (B:Nat) (cs:XV) (l:Lc) (d:Sd):Prop where
 os:w.os=w0.os
 tape:w.tape=w0.tape
 output:w.output=w0.output
 size:w0.heap.size<=w.heap.size
 kept:∀k,k<w0.heap.size-> ¬P k->w.heap[k]?=w0.heap[k]?
 own:∀k,lI B l k->P k∨w0.heap.size<=k
 low:9<=w0.heap.size/\∀k,P k->9<=k
 gl:Gl w0
 sz:cs.size=53
 row:w.heap[B]?=some (.cells cs 102 (0,0))
 map:w.ownsMap aD1 53 uw l.bm 4 (U4 d.cl)
 nd:(d.cl.map (·.1)).Nodup
 came:mZ w l.cg d.rx l.cf d.cq
 goes:mZ w l.gg d.tx l.gf d.gq
 apart:l.cg≠l.gg
 image:w.ownsRow 0 5 1 l.img d.im.length (lC d.im)
abbrev Mx(w0:kV)(P:Nat->Prop)(w:kV)(B:Nat)(l:Lc)(s:S):Prop:=Mw w0 P w B (cells l s) l s.toSd
def mZ.other{w w':kV}{g n f:Nat}{q:List XB}(h:mZ w g n f q)(e:w'.heap[g]?=w.heap[g]?):mZ w' g n f q:=by
 obtain⟨a,b,c,d,A,i,j,k⟩:=h;exact⟨a,b,c,d,A,e.trans i,j,k⟩
def mZ.lt{w:kV}{g n f:Nat}{q:List XB}(h:mZ w g n f q):g<w.heap.size:=by
 obtain⟨a,b,c,d,A,i,j,k⟩:=h;exact aC i
def mO{w w':kV}{b n:Nat}{D:DataW Unit}(h:w.ownsMap aD1 53 uw b n D)(e:w'.heap[b]?=w.heap[b]?):w'.ownsMap aD1 53 uw b n D:=by
 obtain⟨a,c,d,f⟩:=h;exact⟨a,c,e.trans d,f⟩
def uh{w:kV}{b n:Nat}{D:DataW Unit}(h:w.ownsMap aD1 53 uw b n D):b<w.heap.size:=by
 obtain⟨d,c,a,f⟩:=h;exact aC a
def lJ{w w':kV}{v:Value}{n:Nat}{xs:XL}{b:Nat}{e:TypeId}{z:Nat}(h:w.ownsRow b e z v n xs)(o:∀k,v.ownBlock=some k->w'.heap[k]?=w.heap[k]?):w'.ownsRow b e z v n xs:=by
 obtain⟨m,d⟩:=h;refine⟨m,?_⟩
 rcases d with d|⟨g,a,c,f,i,j,l⟩
 ·exact aG d
 exact aF ⟨g,a,c,f,i,(o g (by rw[f];rfl)).trans j,l⟩
variable{w0:kV}{P:Nat->Prop}{w w':kV}{B:Nat}{cs:XV}{l l':Lc}{d d':Sd}{s s':S}
def Mw.lt(h:Mw w0 P w B cs l d):B<w.heap.size:=aC h.row
def Mw.nE(h:Mw w0 P w B cs l d){k:Nat}(a:lI B l k):k<w.heap.size:=by
 rcases a with rfl|rfl|rfl|rfl|a
 ·exact aC h.row
 ·exact uh h.map
 ·exact h.came.lt
 ·exact h.goes.lt
 exact(h.image.lt k a).2
def Mw.qG(h:Mw w0 P w B cs l d){k:Nat}(a:lI B l k):9<=k:=by
 rcases h.own k a with e|e
 ·exact h.low.2 k e
 exact aJ h.low.1 e
def Mw.turn(h:Mw w0 P w B cs l d)(f:w'.os=w.os)(j:w'.tape=w.tape)(g:w'.output=w.output)(i:w.heap.size<=w'.heap.size)
  (a:∀k,k<w.heap.size->(lI B l k∨ ¬P k/\k<w0.heap.size)->w'.heap[k]?=w.heap[k]?):Mw w0 P w' B cs l d:=
 {os:=f.trans h.os,tape:=j.trans h.tape,output:=g.trans h.output,size:=aJ h.size i,
  kept:=fun k b c=>(a k (aW b h.size) (aF ⟨c,b⟩)).trans (h.kept k b c),
  own:=h.own,low:=h.low,gl:=h.gl,sz:=h.sz,nd:=h.nd,
  row:=(a B h.lt (aG (aG rfl))).trans h.row,
  map:=mO h.map (a _ (uh h.map) (aG (aF (aG rfl)))),
  came:=h.came.other (a _ h.came.lt (aG (aF (aF (aG rfl))))),
  goes:=h.goes.other (a _ h.goes.lt (aG (aF (aF (aF (aG rfl)))))),
  apart:=h.apart,
  image:=lJ h.image (fun k b=>a k (h.image.lt k b).2 (aG (aF (aF (aF (aF b))))))}
def Mw.below(h:Mw w0 P w B cs l d)(a:y_ w w'):Mw w0 P w' B cs l d:=
 h.turn a.os a.tape a.output a.size (fun k b _=>a.block k b)
def Mw.dr(h:Mw w0 P w B cs l d):Mw w0 P w.drew B cs l d:=h.turn rfl rfl rfl (ae _) (fun _ _ _=>rfl)
def Mw.al(h:Mw w0 P w B cs l d){o:Obj}:Mw w0 P (w.alloc o) B cs l d:=h.below ((aK _ _).alloc (ae _) o)
def Mw.aside(h:Mw w0 P w B cs l d)(a:Addr)(v:Value)(c: ¬lI B l a.block)(f:w0.heap.size<=a.block):Mw w0 P (w.setCell a v) B cs l d:=
 h.turn rfl rfl rfl (by simp[World.setCell]) (fun k g b=>aD _ _ _ _ (by
  rintro rfl
  rcases b with b|⟨_,b⟩
  ·exact c b
  omega))
def Out(w0:kV)(B:Nat)(l:Lc)(k:Nat):Prop:=¬lI B l k/\w0.heap.size<=k
def Mw.out(h:Mw w0 P w B cs l d)(k:Nat):Out w0 B l (w.heap.size+k):=⟨fun a=>by have:=h.nE a;omega,aJ h.size (Nat.le_add_right _ _)⟩
def Mw.sa(h:Mw w0 P w B cs l d){k j:Nat}{v:Value}(o:Out w0 B l k):Mw w0 P (w.setCell (a_ k j) v) B cs l d:=h.aside _ _ o.1 o.2
abbrev Cl(u:kV)(b:Nat)(cs:XV):Prop:=∀j,u.cell? (a_ b j)=cs[j]?
def Mw.cell(h:Mw w0 P w B cs l d):Cl w B cs:=fun j=>af w _ j _ _ _ h.row
def Mw.free(h:Mw w0 P w B cs l d)(j:Nat):w.frozen? (a_ B j)=false:=by simp[World.frozen?,h.row]
def Mw.base(h:Mw w0 P w B cs l d):Mw w (lI B l) w B cs l d:=
 {h with os:=rfl,tape:=rfl,output:=rfl,size:=ae _,kept:=fun _ _ _=>rfl,own:=fun k a=>aG a,
           low:=⟨aJ h.low.1 h.size,fun k a=>h.qG a⟩,
           gl:=h.gl.of fun k a=>h.kept k (aW a h.low.1) fun b=>absurd (h.low.2 k b) (by omega)}
def Mw.join{cs':XV}(h:Mw w0 P w B cs l d)(k:Mw w (lI B l) w' B cs' l' d'):Mw w0 P w' B cs' l' d':=
 {k with os:=k.os.trans h.os,tape:=k.tape.trans h.tape,output:=k.output.trans h.output,size:=aJ h.size k.size,
           kept:=fun i a b=>(k.kept i (aW a h.size) (fun c=>by
             rcases h.own i c with e|e
             · exact b e
             omega)).trans (h.kept i a b),
           own:=fun i a=>by
             rcases k.own i a with e|e
             · exact h.own i e
             exact aF (aJ h.size e),
           low:=h.low,gl:=h.gl}
def Mw.gw(h:Mw w0 P w B cs l d):Gl w:=h.base.gl
def Mw.all(h:Mw w0 P w B cs l d)(j:Nat)(a:j<6):w.cell? (a_ 1 j)=some (.int .u8 255):=h.base.gl.al j a
def Ei{g n f:Nat}{q:List XB}(h:mZ w g n f q)(k:w.heap[B]?=some (.cells cs 102 (0,0))):g≠B:=by
 rintro rfl;obtain⟨_,_,_,_,A,a,_⟩:=h;rw[k]at a;simp at a
def Mw.FK(h:Mw w0 P w B cs l d):l.bm≠B:=by
 intro e;obtain⟨b,c,a,f⟩:=h.map;rw[e,h.row]at a;simp at a
def Mw.C9(h:Mw w0 P w B cs l d){k:Nat}(a:l.img.ownBlock=some k):k≠B:=by
 intro e
 rcases h.image.2 with⟨j,_⟩|⟨g,c,f,i,m,b,n⟩
 ·rw[j]at a;cases a
 rw[i]at a;have:g=k:=aV a;subst this e;rw[h.row]at b;simp at b
abbrev Fre(u:kV)(B:Nat):Prop:=∀j,u.frozen? (a_ B j)=false
abbrev Kn(w:kV)(B:Nat)(cs:XV):Prop:=Cl w B cs/\Fre w B/\B<w.heap.size/\B≠w.heap.size/\w.heap.size≠B/\(∀k,B≠w.heap.size+k)/\(∀k,w.heap.size+k≠B)/\∀k,B<w.heap.size+k
def Mw.k(h:Mw w0 P w B cs l d):Kn w B cs:=by
 have:=h.lt;exact⟨h.cell,h.free,this,by omega,by omega,fun k=>by omega,fun k=>by omega,fun k=>by omega⟩
def Mw.xO(h:Mw w0 P w B cs l d){k:Nat}{a:XV}{t:TypeId}{z:Nat×Nat}(f:w.heap[k]?=some (.cells a t z)):k≠l.bm:=by
 rintro rfl;obtain⟨g,c,b,_⟩:=h.map;rw[f]at b;simp at b
def Mw.mapped(h:Mw w0 P w B cs l d)(t:vT w w' l.bm){c:List (Int×Nb)}(p:w'.ownsMap aD1 53 uw l.bm 4 (U4 c))(o:(c.map (·.1)).Nodup):Mw w0 P w' B cs l {d with cl:=c}:=
 {os:=t.os.trans h.os,tape:=t.tape.trans h.tape,output:=t.output.trans h.output,size:=aJ h.size t.size,
  kept:=fun k a f=>(t.block k (aW a h.size) (by
   rintro rfl
   rcases h.own l.bm (aF (aG rfl))with e|e
   ·exact f e
   omega)).trans (h.kept k a f),
  own:=h.own,low:=h.low,gl:=h.gl,sz:=h.sz,nd:=o,
  row:=(t.block B h.lt h.FK.symm).trans h.row,
  map:=p,
  came:=h.came.other (t.block _ h.came.lt (by obtain⟨_,_,_,_,A,b,_⟩:=h.came;exact h.xO b)),
  goes:=h.goes.other (t.block _ h.goes.lt (by obtain⟨_,_,_,_,A,b,_⟩:=h.goes;exact h.xO b)),
  apart:=h.apart,
  image:=lJ h.image (fun k a=>t.block k (h.image.lt k a).2 (by
   rcases h.image.2 with⟨b,_⟩|⟨g,i,j,m,q,n,r⟩
   ·rw[b]at a;cases a
   rw[m]at a;have:g=k:=aV a;subst this;exact h.xO n))}
def Mw.st(h:Mw w0 P w B cs l d){j:Nat}{v:Value}:Mw w0 P (w.setCell (a_ B j) v) B (cs.setIfInBounds j v) l d:=by
 have a:∀k,k≠B->(w.setCell (a_ B j) v).heap[k]?=w.heap[k]?:=fun k a=>aD _ _ _ _ a;exact
 {h with size:=by simpa[World.setCell]using h.size,
           kept:=fun k A b=>(a k (by
             rintro rfl
             rcases h.own k (aG rfl)with e|e
             · exact b e
             omega)).trans (h.kept k A b),
           sz:=by simpa using h.sz,
           row:=by rw[bS w B j _ _ _ _ h.row,cO w B _ _ _ _ h.row],
           map:=mO h.map (a _ h.FK),
           came:=h.came.other (a _ (Ei h.came h.row)),
           goes:=h.goes.other (a _ (Ei h.goes h.row)),
           image:=lJ h.image (fun k A=>a k (h.C9 A))}
def Mw.x(h:Mw w0 P w B cs l d)(e:cs=cells l s')(k:d=s'.toSd):Mx w0 P w B l s':=by subst e k;exact h
end Nu
namespace Nu
open Bs
structure Lk (w w':kV):Prop where
 heap:w'.heap=w.heap
 os:w'.os=w.os
 tape:w'.tape=w.tape
 output:w'.output=w.output
def Mw.like{w0:kV}{P:Nat->Prop}{w w':kV}{B:Nat}{cs:XV}{l:Lc}{d:Sd}(h:Mw w0 P w B cs l d)(k:Lk w w'):Mw w0 P w' B cs l d:=
 h.turn k.os k.tape k.output (by rw[k.heap];exact ae _) (fun i _ _=>by rw[k.heap])
def MQ(b o g n f:Nat)(s:XB)(w:kV)(a:w.cell? (a_ b o)=some (.slice (some (a_ g 0)) n n))(c:w.cell? (a_ b (o+1))=some (E4 f))(d:w.cell? (a_ b (o+2))=some (E4 n)):
  C_ 51 #[.pointer (some (a_ b o)),.string s] w (.bool false) fun w'=>Lk w w':=by
 go_enter func51,ntmps51;go_wp2;go_quiet (fail);go_wp2;go_ret;exact⟨rfl,⟨rfl,rfl,rfl,rfl⟩⟩
def NZ(w:kV)(k:Nat):(w.drewN k).heap=w.heap:=by first|rfl|(induction k with|zero=>rfl|succ k ih=>exact ih)
def Ci(a n:Nat):((a:Int)).tmod (n:Int)=((a%n:Nat):Int):=by rw[cZ (by omega)];simp
def MN(b o g n f c:Nat)(s:XB)(k:Value)(w:kV)(l:w.cell? (a_ b o)=some (.slice (some (a_ g 0)) n n))(m:w.cell? (a_ b (o+1))=some (E4 f))(p:w.cell? (a_ b (o+2))=some (E4 c))
  (q:c<n) (r:f<n) (t:n<=16) (A:g≠b) (v:w.cell? (a_ g ((f+c)%n))=some k) (y:w.frozen? (a_ g ((f+c)%n))=false) (z:w.frozen? (a_ b (o+2))=false):
  C_ 51 #[.pointer (some (a_ b o)),.string s] w (.bool true) fun w'=>Lk ((w.setCell (a_ g ((f+c)%n)) (.string s)).setCell (a_ b (o+2)) (E4 ((c:Int)+1))) w':=by
 have M:((c:Int)==(n:Int))=false:=by simp;omega
 have d:IntKind.i64.wrap ((f:Int)+(c:Int))=(f:Int)+(c:Int):=wrap_i64 _ (by omega) (by omega);have i:IntKind.i64.wrap ((c:Int)+1)=(c:Int)+1:=wrap_i64 _ (by omega) (by omega);have E:((f:Int)+(c:Int)).tmod (n:Int)=(((f+c)%n:Nat):Int):=by rw[<-Ci];simp
 have J:(f+c)%n<n:=dK _ (by omega);generalize(f+c)%n=j at*;have a: ¬(n:Int)=0:=by omega
 have I:b≠g:=fun e=>A e.symm;go_enter func51,ntmps51;go_wp2;go_quiet (fail);go_wp2;go_region
 go_wp2;go_ret;exact⟨rfl,⟨rfl,rfl,rfl,rfl⟩⟩
def IX(b o:Nat)(w:kV)(a:w.cell? (a_ b (o+2))=some (E4 0)):
  C_ 52 #[.pointer (some (a_ b o))] w (.tuple #[.string ⟨#[]⟩,.bool false]) fun w'=>w'=w:=by
 go_enter func52,ntmps52;go_wp2;go_ret2;exact⟨rfl,rfl⟩
def LK(b o g n f c:Nat)(s:XB)(w:kV)(k:w.cell? (a_ b o)=some (.slice (some (a_ g 0)) n n))(l:w.cell? (a_ b (o+1))=some (E4 f))(m:w.cell? (a_ b (o+2))=some (E4 c))
  (p:0<c) (J:c<=n) (q:f<n) (r:n<=16) (A:g≠b) (t:w.cell? (a_ g f)=some (.string s)) (v:w.frozen? (a_ g f)=false) (y:w.frozen? (a_ b (o+2))=false) (z:w.frozen? (a_ b (o+1))=false):
  C_ 52 #[.pointer (some (a_ b o))] w (.tuple #[.string s,.bool true]) fun w'=>Lk (((w.setCell (a_ g f) (.string ⟨#[]⟩)).setCell (a_ b (o+1)) (E4 (((f+1)%n:Nat):Int))).setCell (a_ b (o+2)) (E4 ((c:Int)-1))) w':=by
 have M:((c:Int)==0)=false:=by simp;omega
 have d:IntKind.i64.wrap ((f:Int)+1)=(f:Int)+1:=wrap_i64 _ (by omega) (by omega);have i:IntKind.i64.wrap ((c:Int)-1)=(c:Int)-1:=wrap_i64 _ (by omega) (by omega);have E:((f:Int)+1).tmod (n:Int)=(((f+1)%n:Nat):Int):=by rw[<-Ci];simp
 generalize(f+1)%n=j at*;have a: ¬(n:Int)=0:=by omega
 have I:b≠g:=fun e=>A e.symm;go_enter func52,ntmps52;go_wp2;go_quiet (fail);go_wp2;go_region
 go_wp2;go_region
 go_wp2;go_ret2;exact⟨rfl,⟨rfl,rfl,rfl,rfl⟩⟩
variable{w0:kV}{P:Nat->Prop}{w w':kV}{B:Nat}{cs:XV}{l l':Lc}{d d':Sd}{s s':S}
def oV(a n:Nat)(h:a<2*n):a%n=if a<n then a else a-n:=by
 split
 ·exact gW (by assumption)
 rw[Nat.mod_eq_sub_mod (by omega),gW (by omega)]
def lG{g:Nat}{c:XV}{t:TypeId}(u:kV)(j:Nat)(v:Value)(a:u.heap[g]?=some (.cells c t (0,0))):(u.setCell (a_ g j) v).heap[g]?=some (.cells (c.setIfInBounds j v) t (0,0)):=by
 rw[bS u g j _ _ _ _ a,cO u g _ _ _ _ a]
def mZ.add{g n f:Nat}{q:List XB}(h:mZ w g n f q)(s:XB)(r:q.length<n):mZ (w.setCell (a_ g ((f+q.length)%n)) (.string s)) g n f (q++ [s]):=by
 obtain⟨a,b,c,d,E,l,k,m⟩:=h;refine⟨a,b,c,by simp;omega,E.setIfInBounds ((f+q.length)%n) (.string s),lG w _ _ l,by simp[k],fun i o=> ?_⟩;have j:i<=q.length:=by simp at o;omega
 have p:=dK (f+q.length) a
 rcases Nat.lt_or_eq_of_le j with A|rfl
 ·rw[jH A,dX,az]
  ·exact m i A
  rw[oV _ n (by omega),oV _ n (by omega)]
  split<;>split<;>omega
 simp[dX,k,p]
def mZ.next{g n f:Nat}{s:XB}{q:List XB}(h:mZ w g n f (s::q))(v:Value):mZ (w.setCell (a_ g f) v) g n ((f+1)%n) q:=by
 obtain⟨a,b,c,d,A,k,l,m⟩:=h;have o:=dK (f+1) a;simp only[ax]at d;refine⟨a,b,o,by omega,A.setIfInBounds f v,lG w _ _ k,by simp[l],fun i p=> ?_⟩;have j:=m (i+1) (by simp;omega);rw[dX,az]
 ·rw[oV (f+1) n (by omega)]
  simp only[fO]at j;rw[<-j];congr 1
  split
  ·congr 1;omega
  rw[oV _ n (by omega),oV _ n (by omega)]
  split<;>split<;>omega
 rw[oV (f+1) n (by omega)]
 split
 ·rw[oV _ n (by omega)];split<;>omega
 rw[oV _ n (by omega)];split<;>omega
def mZ.first{g n f:Nat}{s:XB}{q:List XB}(h:mZ w g n f (s::q)):w.cell? (a_ g f)=some (.string s):=by
 obtain⟨a,b,c,d,A,j,l,k⟩:=h;have i:=k 0 (by simp);rw[af w _ f _ _ _ j];rw[je,gW c]at i;exact i
def mZ.some{g n f:Nat}{q:List XB}(h:mZ w g n f q)(j:Nat)(m:j<n):∃v,w.cell? (a_ g j)=some v:=by
 obtain⟨a,b,c,d,A,i,k,l⟩:=h;rw[af w _ j _ _ _ i];exact⟨A[j],bM (by omega)⟩
def mZ.free{g n f:Nat}{q:List XB}(h:mZ w g n f q)(j:Nat):w.frozen? (a_ g j)=false:=by
 obtain⟨a,b,c,d,A,i,k,l⟩:=h;simp[World.frozen?,i]
def Mw.dn(h:Mw w0 P w B cs l d){n:Nat}:Mw w0 P (w.drewN n) B cs l d:=h.like ⟨NZ w n,rfl,rfl,rfl⟩
def Mw.Bl(h:Mw w0 P w B cs l d):l.bm≠l.cg/\l.bm≠l.gg:=by
 obtain⟨f,c,b,_⟩:=h.map;constructor
 ·intro e
  obtain⟨_,_,_,_,A,a,_⟩:=h.came;rw[<-e,b]at a;simp at a
 intro e;obtain⟨_,_,_,_,A,a,_⟩:=h.goes;rw[<-e,b]at a;simp at a
def Mw.zo(h:Mw w0 P w B cs l d){k:Nat}(b:l.img.ownBlock=Option.some k):k≠l.cg/\k≠l.gg:=by
 rcases h.image.2 with⟨m,_⟩|⟨g,f,i,j,n,c,o⟩
 ·rw[m]at b;cases b
 rw[j]at b;have:g=k:=aV b;subst this;constructor
 ·intro e
  obtain⟨_,_,_,_,A,a,_⟩:=h.came;rw[<-e,c]at a;simp at a
 intro e;obtain⟨_,_,_,_,A,a,_⟩:=h.goes;rw[<-e,c]at a;simp at a
def Mw.U2{cs':XV}(h:Mw w0 P w B cs l d)(c:w'.os=w.os/\w'.tape=w.tape/\w'.output=w.output/\w'.heap.size=w.heap.size)(q:cs'.size=53)
  (I:w'.heap[B]?=Option.some (.cells cs' 102 (0,0))) (A:mZ w' l'.cg d'.rx l'.cf d'.cq) (E:mZ w' l'.gg d'.tx l'.gf d'.gq)
  (b:(l'.bm,l'.cg,l'.gg,l'.img,d'.cl,d'.im)=(l.bm,l.cg,l.gg,l.img,d.cl,d.im))
  (f:∀k,k≠B->k≠l.cg->k≠l.gg->w'.heap[k]?=w.heap[k]?):Mw w0 P w' B cs' l' d':=by
 simp only[jK]at b;obtain⟨b,i,j,m,n,p⟩:=b;exact
 {os:=c.1.trans h.os,tape:=c.2.1.trans h.tape,output:=c.2.2.1.trans h.output,size:=by rw[c.2.2.2];exact h.size,
  kept:=fun k M o=>by
   have g: ¬lI B l k:=fun J=>by
    rcases h.own k J with e|e
    ·exact o e
    omega
   exact(f k (fun e=>g (aG e)) (fun e=>g (aF (aF (aG e)))) (fun e=>g (aF (aF (aF (aG e)))))).trans (h.kept k M o),
  own:=fun k a=>h.own k (by unfold lI at a ⊢;rw[b,i,j,m]at a;exact a),
  low:=h.low,gl:=h.gl,row:=I,sz:=q,nd:=by rw[n];exact h.nd,
  map:=by rw[b,n];exact mO h.map (f _ h.FK h.Bl.1 h.Bl.2),
  came:=A,goes:=E,
  apart:=by rw[i,j];exact h.apart,
  image:=by rw[m,p];exact lJ h.image (fun k a=>f k (h.C9 a) (h.zo a).1 (h.zo a).2)}
def Mw.xy(h:Mw w0 P w B cs l d):l.cg≠B:=Ei h.came h.row
def Mw.xn(h:Mw w0 P w B cs l d):l.gg≠B:=Ei h.goes h.row
abbrev S.sent(s:S)(t:XB):S:={s with lost:=if s.gq.length=s.tx then wrap64 (s.lost+1)else s.lost,gq:=if s.gq.length=s.tx then s.gq else s.gq++ [t]}
def Fa(q:List XB):XB:=match q with|[]=>⟨#[]⟩|t::_=>t
def R_(h:Mx w0 P w B l s)(t:XB):C_ 51 #[.pointer (Option.some (a_ B 16)),.string t] w (.bool (decide (s.cq.length<s.rx))) fun u=>Mx w0 P u B l (if s.cq.length<s.rx then {s with cq:=s.cq++ [t]}else s):=by
 by_cases a:s.cq.length<s.rx
 ·obtain⟨g,f⟩:=h.came.some _ (dK (l.cf+s.cq.length) h.came.1)
  refine on_ (MN B 16 l.cg s.rx l.cf s.cq.length t g w (h.cell 16) (h.cell 17) (h.cell 18) a h.came.2.2.1 h.came.2.1 h.xy f (h.came.free _) (h.free _)) fun i b=>?_;rw[aB a];refine⟨by simp[a],Mw.like (w:=(w.setCell (a_ l.cg ((l.cf+s.cq.length)%s.rx)) (.string t)).setCell (a_ B 18) (E4 ((s.cq.length:Int)+1))) (h.U2 ⟨rfl,rfl,rfl,by simp[World.setCell]⟩ rfl ?_ ?_ ?_ rfl (fun k c d j=>by rw[aD _ _ _ _ c,aD _ _ _ _ d])) b⟩
  ·rw[lG _ 18 _ (by rw[aD _ _ _ _ h.xy.symm];exact h.row)]
   have e:(((s.cq++ [t]).length:Nat):Int)=(s.cq.length:Int)+1:=by simp
   unfold cells;rw[e];rfl
  ·exact(h.came.add t a).other (aD _ _ _ _ h.xy)
  exact(h.goes.other (aD _ _ _ _ h.apart.symm)).other (aD _ _ _ _ h.xn)
 have e:s.cq.length=s.rx:=by have:=h.came.2.2.2.1;omega
 refine on_ (MQ B 16 l.cg s.rx l.cf t w (h.cell 16) (h.cell 17) (by rw[<-e];exact h.cell 18)) fun i b=>?_;rw[az a];exact⟨by simp[a],h.like b⟩
def NB(h:Mx w0 P w B l s):C_ 52 #[.pointer (Option.some (a_ B 16))] w (.tuple #[.string (Fa s.cq),.bool (!s.cq.isEmpty)]) fun u=>∃l',Mx w0 P u B l' {s with cq:=s.cq.tail}:=by
 cases hr:s.cq with
 |nil=>
  refine(IX B 16 w (by have:=h.cell 18;rw[this];show Option.some (E4 ((s.cq.length:Nat):Int))=_;rw[hr];rfl)).mono ?_;rintro e c ⟨rfl,rfl⟩;exact⟨rfl,l,show Mx w0 P c B l {s with cq:=[]}from by rw[<-hr];exact h⟩
 |cons t q=>
  have b:mZ w l.cg s.rx l.cf (t::q):=by rw[<-hr];exact h.came
  refine on_ (LK B 16 l.cg s.rx l.cf s.cq.length t w (h.cell 16) (h.cell 17) (h.cell 18) (by rw[hr];simp) h.came.2.2.2.1 h.came.2.2.1 h.came.2.1 h.xy b.first (h.came.free _) (h.free _) (h.free _)) fun c f=>?_;rw[show(t::q).tail=q from rfl];refine⟨rfl,{l with cf:=(l.cf+1)%s.rx},Mw.like (h.U2 (w':=((w.setCell (a_ l.cg l.cf) (.string ⟨#[]⟩)).setCell (a_ B 17) (E4 (((l.cf+1)%s.rx:Nat):Int))).setCell (a_ B 18) (E4 ((s.cq.length:Int)-1))) ⟨rfl,rfl,rfl,by simp[World.setCell]⟩ rfl ?_ ?_ ?_ rfl (fun k a d g=>by rw[aD _ _ _ _ a,aD _ _ _ _ a,aD _ _ _ _ d])) f⟩
  ·rw[lG _ 18 _ (lG _ 17 _ (by rw[aD _ _ _ _ h.xy.symm];exact h.row))]
   have e:((q.length:Nat):Int)=(s.cq.length:Int)-1:=by rw[hr];simp
   unfold cells;rw[e];rfl
  ·exact((mZ.next b _).other (aD _ _ _ _ h.xy)).other (aD _ _ _ _ h.xy)
  exact((h.goes.other (aD _ _ _ _ h.apart.symm)).other (aD _ _ _ _ h.xn)).other (aD _ _ _ _ h.xn)
def TQ(h:Mx w0 P w B l s)(t:XB):C_ 51 #[.pointer (Option.some (a_ B 19)),.string t] w (.bool (decide (s.gq.length<s.tx))) fun u=>Mx w0 P u B l (if s.gq.length<s.tx then {s with gq:=s.gq++ [t]}else s):=by
 by_cases a:s.gq.length<s.tx
 ·obtain⟨g,f⟩:=h.goes.some _ (dK (l.gf+s.gq.length) h.goes.1)
  refine on_ (MN B 19 l.gg s.tx l.gf s.gq.length t g w (h.cell 19) (h.cell 20) (h.cell 21) a h.goes.2.2.1 h.goes.2.1 h.xn f (h.goes.free _) (h.free _)) fun i b=>?_;rw[aB a];refine⟨by simp[a],Mw.like (w:=(w.setCell (a_ l.gg ((l.gf+s.gq.length)%s.tx)) (.string t)).setCell (a_ B 21) (E4 ((s.gq.length:Int)+1))) (h.U2 ⟨rfl,rfl,rfl,by simp[World.setCell]⟩ rfl ?_ ?_ ?_ rfl (fun k c j d=>by rw[aD _ _ _ _ c,aD _ _ _ _ d])) b⟩
  ·rw[lG _ 21 _ (by rw[aD _ _ _ _ h.xn.symm];exact h.row)]
   have e:(((s.gq++ [t]).length:Nat):Int)=(s.gq.length:Int)+1:=by simp
   unfold cells;rw[e];rfl
  ·exact(h.came.other (aD _ _ _ _ h.apart)).other (aD _ _ _ _ h.xy)
  exact(h.goes.add t a).other (aD _ _ _ _ h.xn)
 have e:s.gq.length=s.tx:=by have:=h.goes.2.2.2.1;omega
 refine on_ (MQ B 19 l.gg s.tx l.gf t w (h.cell 19) (h.cell 20) (by rw[<-e];exact h.cell 21)) fun i b=>?_;rw[az a];exact⟨by simp[a],h.like b⟩
def Pg(h:Mx w0 P w B l s):C_ 52 #[.pointer (Option.some (a_ B 19))] w (.tuple #[.string (Fa s.gq),.bool (!s.gq.isEmpty)]) fun u=>∃l',Mx w0 P u B l' {s with gq:=s.gq.tail}:=by
 cases hr:s.gq with
 |nil=>
  refine(IX B 19 w (by have:=h.cell 21;rw[this];show Option.some (E4 ((s.gq.length:Nat):Int))=_;rw[hr];rfl)).mono ?_;rintro e c ⟨rfl,rfl⟩;exact⟨rfl,l,show Mx w0 P c B l {s with gq:=[]}from by rw[<-hr];exact h⟩
 |cons t q=>
  have b:mZ w l.gg s.tx l.gf (t::q):=by rw[<-hr];exact h.goes
  refine on_ (LK B 19 l.gg s.tx l.gf s.gq.length t w (h.cell 19) (h.cell 20) (h.cell 21) (by rw[hr];simp) h.goes.2.2.2.1 h.goes.2.2.1 h.goes.2.1 h.xn b.first (h.goes.free _) (h.free _) (h.free _)) fun c f=>?_;rw[show(t::q).tail=q from rfl];refine⟨rfl,{l with gf:=(l.gf+1)%s.tx},Mw.like (h.U2 (w':=((w.setCell (a_ l.gg l.gf) (.string ⟨#[]⟩)).setCell (a_ B 20) (E4 (((l.gf+1)%s.tx:Nat):Int))).setCell (a_ B 21) (E4 ((s.gq.length:Int)-1))) ⟨rfl,rfl,rfl,by simp[World.setCell]⟩ rfl ?_ ?_ ?_ rfl (fun k a g d=>by rw[aD _ _ _ _ a,aD _ _ _ _ a,aD _ _ _ _ d])) f⟩
  ·rw[lG _ 21 _ (lG _ 20 _ (by rw[aD _ _ _ _ h.xn.symm];exact h.row))]
   have e:((q.length:Nat):Int)=(s.gq.length:Int)-1:=by rw[hr];simp
   unfold cells;rw[e];rfl
  ·exact((h.came.other (aD _ _ _ _ h.apart)).other (aD _ _ _ _ h.xy)).other (aD _ _ _ _ h.xy)
  exact((mZ.next b _).other (aD _ _ _ _ h.xn)).other (aD _ _ _ _ h.xn)
end Nu
namespace Nu
open Bs
variable{w0 w w':kV}{P:Nat->Prop}{B:Nat}{cs:XV}{l l':Lc}{d d':Sd}{s s':S}
def on_{P:Program}{f:FuncId}{a:XV}{w:kV}{e:Ending}{R:kV->Prop}{Q:Ending->kV->Prop}(h:Calls P f a w fun x u=>x=e/\R u)(k:∀u,R u->Q e u):Calls P f a w Q:=h.mono fun _ u h=>h.1▸k u h.2
def Ms(f:Nat)(xs:XL)(s:S)(r:Value)(s':S):Prop:=
 ∀ {w0:kV} {P:Nat->Prop} {w:kV} {B:Nat} {l:Lc},Mx w0 P w B l s->C_ f ((p_ B)::xs).toArray w r fun u=>∃l',Mx w0 P u B l' s'
def qC{f:Nat}{xs:XL}{r:Value}{Q:Ending->kV->Prop}(b:Ms f xs s r s')(h:Mx w0 P w B l s)(k:∀u l',Mx w0 P u B l' s'->Kn u B (cells l' s')->Q (.returned r) u):D_ f ((p_ B)::xs).toArray w Q:=
 on_ (b h) fun u ⟨l',a⟩=>k u l' a a.k
abbrev Kp(w u:kV):Prop:=∀b o,b<w.heap.size->u.cell? (a_ b o)=w.cell? (a_ b o)
def xI(s:XB)(k:Int)(w:kV):C_ 150 #[.string s,E4 k] w (.string s) fun w'=>w'=w:=by
 go_enter func150,ntmps150;go_wp2;go_ret;exact⟨rfl,rfl⟩
def S.addr(s:S):Int:=if s.st<4 then 0 else s.nZ
def mE(h:Mx w0 P w B l s):C_ 74 #[p_ B] w (E3 s.addr) fun u=>u=w:=by
 have r:=h.cell
 by_cases a:s.st<4
 all_goals
  simp only[S.addr,a,bI,bD];go_enter func74,ntmps74;go_wp2;go_ret;exact⟨rfl,rfl⟩
abbrev S.card(s:S):XU:=[s.k0,s.k1,s.k2,s.k3,s.k4,s.k5]
abbrev S.send(s:S)(t:XU)(ty:Int)(load:XB):S:=s.sent (wO.yH (t++s.card) ty load)
def pF(a b c d e f:UInt8)(ty:Int)(load:XB)(n:0<=ty)(o:ty<=65535)(p:load.size<=262144):
  Ms 149 [.agg (rM a.toNat b.toNat c.toNat d.toNat e.toNat f.toNat),E6 ty,.string load] s (.tuple #[]) (s.send [a,b,c,d,e,f] ty load):=by
 intro w0 P w B l h;have r:=h.k;go_enter func149,ntmps149;go_wp2;go_region_held3 (Kp (w.alloc (.cells (rM a.toNat b.toNat c.toNat d.toNat e.toNat f.toNat) 26))) (first|exact fun _ _ _=>rfl|exact m)
  (first|(go_at_call 189;refine on_ (wO.qY a b c d e f s.k0 s.k1 s.k2 s.k3 s.k4 s.k5 ty load _ n o p) fun u i=> ?_;have m:=xJ.mX i;have q:=h.al.dr.below i)|(go_at_call 150;refine on_ (xI _ _ _) fun u2 v=> ?_;subst v))
 have j:=TQ q (wO.yH [a,b,c,d,e,f,s.k0,s.k1,s.k2,s.k3,s.k4,s.k5] ty load);have A:=h.goes.2.2.2.1;clear i m h r
 by_cases t:s.gq.length<s.tx
 all_goals
  simp only[t,decide_true,decide_false,bI,bD]at j;go_wp2_with (refine on_ j fun u5 g=> ?_;have y:=g.k);go_end0;refine⟨rfl,l,?_⟩
 ·have e: ¬s.gq.length=s.tx:=by omega
  simp only[S.send,S.sent,e,bD];exact g
 have e:s.gq.length=s.tx:=by omega
 simp only[S.send,S.sent,e,bI];exact g.st.x rfl rfl
structure OkF (draw id lM nZ qJ mask sV pz old qA over sF sT:Int) (sL:XB):Prop where
 draw:0<=draw/\draw<=4294967295
 id:0<=id/\id<=65535
 lM:0<=lM/\lM<=4294967295
 nZ:0<=nZ/\nZ<=4294967295
 qJ:0<=qJ/\qJ<=4294967295
 mask:0<=mask/\mask<=4294967295
 sV:0<=sV/\sV<=4294967295
 pz:0<=pz/\pz<=4294967295
 old:0<=old/\old<=4294967295
 qA:0<=qA/\qA<=4294967295
 over:0<=over/\over<=4294967295
 sF:0<=sF/\sF<=65535
 sT:0<=sT/\sT<=65535
 sL:sL.size<=262144
abbrev S.Ok(s:S):Prop:=OkF s.draw s.id s.lM s.nZ s.qJ s.mask s.sV s.pz s.old s.qA s.over s.sF s.sT s.sL
def t_(h:s.Ok):0<=s.addr/\s.addr<=4294967295:=by
 unfold S.addr;have:=h.nZ
 split<;>omega
def S.uu(s:S)(ta f t:Int)(load:XB):XB:=Ip.LM s.id 64 17 s.addr ta (Ud.xM f t s.addr ta load)
abbrev S.tH(s:S):S:={s with id:=IntKind.u16.wrap (s.id+1)}
def Di(f t a b:Int)(load:XB):(Ud.xM f t a b load).size<=1480:=by
 unfold Ud.xM
 split
 ·have:(Ud.CB f t a b load).length=8+load.size:=by unfold Ud.CB;rw[Wt.x_];simp[Ud.wG,mf,mg];omega
  show(Ud.CB f t a b load).toArray.size<=_;simp;omega
 show(#[]:Array UInt8).size<=_;simp
def bq{W u:kV}(a:y_ W u):Kp W u/\(∀b o,b<W.heap.size->u.frozen? (a_ b o)=W.frozen? (a_ b o)):=⟨fun b o h=>a.cell (p:=(a_ b o)) h,fun b o h=>a.frozen (p:=(a_ b o)) h⟩
def tQ(o:s.Ok)(a f t:Int)(load:XB)(A:0<=a/\a<=4294967295)(m:0<=f/\f<=65535)(n:0<=t/\t<=65535)(p:load.size<=262144):
  Ms 157 [E3 a,.agg (rG f t load)] s (.string (s.uu a f t load)) s.tH:=by
 intro w0 P w B l h;have j:=fun u=>Ud.qY f t s.addr a load u m n (t_ o) A p;have i:=fun u=>Ip.qY s.id 64 17 s.addr a (Ud.xM f t s.addr a load) u o.id (by omega) (by omega) (t_ o) A (aJ (Di _ _ _ _ _) (by omega));unfold S.uu;generalize Ud.xM f t s.addr a load=L at*;have r:=h.k;go_enter func157,ntmps157;go_wp2_with (first|(go_at_call 74;refine on_ (mE h.al) fun u c=> ?_;subst c)|(go_at_call 150;refine on_ (xI _ _ _) fun u2 c=> ?_;subst c)|(go_at_call 201;refine on_ (j _) fun u1 g=> ?_;obtain⟨q,v⟩:=bq g;have d:=h.al.al.below g;have y:=d.k)|(go_at_call 202;refine on_ (i _) fun u3 b=> ?_));go_ret;exact⟨rfl,l,((d.sa (h.out 1)).st.below b).x rfl rfl⟩
def tN(s:S)(a f t:Int)(load:XB):(s.uu a f t load).size<=1500:=by
 have h:=Di f t s.addr a load;unfold S.uu Ip.LM;generalize Ud.xM f t s.addr a load=L at h ⊢;rw[az (by decide),aB h];show(Ip.Zv _ _ _ _ _ _).toArray.size<=_;rw[iy,Ip.Zv,au,Ip.uT,mg];omega
def KI(h:Mx w0 P w B l s):1<w.heap.size/\∀k,1<w.heap.size+k:=by
 have:=aW (show 1<9 by decide) (aJ h.low.1 h.size);exact⟨this,fun k=>by omega⟩
def Mw.kp(h:Mw w (lI B l') w' B cs l d)(k:Nat)(b:k<w.heap.size)(a: ¬lI B l' k)(o:Nat):w'.cell? (a_ k o)=w.cell? (a_ k o):=bC (h.kept k b a)
abbrev Bx(k:Nat)(xs:XV)(u:kV):Prop:=Cl u k xs/\∀j,j<6->u.cell? (a_ 1 j)=some (E8 255)
def bx{k:Nat}{xs:XV}{t:TypeId}(a:w.heap[k]?=some (.cells xs t (0,0)))(b: ¬lI B l' k)(h:Mw w (lI B l') w' B cs l d):Bx k xs w':=
 ⟨fun j=>(h.kp _ (aC a) b j).trans (af _ _ j _ _ _ a),h.all⟩
abbrev S.DT(s:S)(f t:Int)(load:XB):S:=s.tH.send [255,255,255,255,255,255] 2048 (s.uu 4294967295 f t load)
def Sz(o:s.Ok)(f t:Int)(load:XB)(c:0<=f/\f<=65535)(d:0<=t/\t<=65535)(g:load.size<=262144):
  Ms 152 [.agg (rG f t load)] s (.tuple #[]) (s.DT f t load):=by
 intro w0 P w B l h;have j:=h.all;have n:=KI h;have r:=h.k;have m:=tN s 4294967295 f t load;go_enter func152,ntmps152;go_wp2;go_region_held3 (Bx w.heap.size #[E6 f,E6 t,.string load]) (exact bx (ah w _) (h.out 0).1 (by first|exact b|exact a|exact h.al.base.dr))
  (first|(go_at_call 157;refine qC (tQ o 4294967295 f t load (by omega) c d g) h.al.base.dr fun u p a q=> ?_)|(go_at_call 149;refine qC (pF 255 255 255 255 255 255 2048 _ (by omega) (by omega) (by omega)) a fun u2 i b v=> ?_))
 go_wp2;go_end0;exact⟨rfl,i,h.al.join b⟩
def zM(op:Int)(a:XU)(f:a.length=6)(c:Int)(b:XU)(g:b.length=6)(d:Int):(xJ.uJ op a c b d).size<=1500:=by
 unfold xJ.uJ
 split
 ·show(xJ.Ot op a c b d).toArray.size<=1500
  simp[xJ.Ot,mf,nu,nJ,f,g]
 decide
abbrev S.ask(s:S)(a:Int):S:=s.send [255,255,255,255,255,255] 2054 (xJ.uJ 1 s.card s.addr [0,0,0,0,0,0] a)
abbrev aw3(s:S)(a:Int):XV:=(rA 1 s.k0.toNat s.k1.toNat s.k2.toNat s.k3.toNat s.k4.toNat s.k5.toNat s.addr 0 0 0 0 0 0 a)
def zK(A:0<=s.addr/\s.addr<=4294967295)(a:Int)(j:0<=a/\a<=4294967295):Ms 121 [E3 a] s (.tuple #[]) (s.ask a):=by
 intro w0 P w B l h;have f:=fun u=>xJ.qY 1 s.k0 s.k1 s.k2 s.k3 s.k4 s.k5 s.addr 0 0 0 0 0 0 a u (by decide) (by decide) A.1 A.2 j.1 j.2;have o:=zM 1 s.card rfl s.addr [0,0,0,0,0,0] rfl a;unfold S.ask;rw[show xJ.uJ 1 [s.k0,s.k1,s.k2,s.k3,s.k4,s.k5] s.addr [0,0,0,0,0,0] a=xJ.uJ 1 s.card s.addr [0,0,0,0,0,0] a from rfl]at f;generalize xJ.uJ 1 s.card s.addr [0,0,0,0,0,0] a=L at*;generalize xJ.GH 1=E at*;have r:=h.k;go_enter func121,ntmps121;go_wp2;go_cut [4] (fun t wc=>t=(p_ w.heap.size)/\Mx w0 P wc B l s/\wc.heap[w.heap.size]?=some (.cells (aw3 s a) 115 (0,0)));case first=>
  go_region_held3 (Cl · B (cells l s)) ((refine Mw.cell (w0:=w0) (P:=P) (l:=l) (d:=s.toSd) ?_;repeat with_reducible first|refine Mw.dr ?_|refine Mw.al ?_|exact h))
   (first|(go_at_call 74;refine on_ (mE (show Mx w0 P _ B l s from by repeat with_reducible first|refine Mw.dr ?_|refine Mw.al ?_|exact h)) fun u c=> ?_;subst c))
  all_goals
   go_wp2;go_meet;exact⟨rfl,by repeat with_reducible first|refine Mw.dr ?_|refine Mw.al ?_|exact h,ah w _⟩
 rename kV=>x;obtain⟨rfl,b,m⟩:=hcut;have q:=bx m (h.out 0).1 b.base;go_wp2;go_region_held3 (Bx w.heap.size (aw3 s a)) (exact bx m (h.out 0).1 (by first|exact i|exact g|exact b.base.dr))
  (first|(go_at_call 151;refine on_ (f _) fun u1 n=> ?_;have g:=b.base.dr.below n)|(go_at_call 150;refine on_ (xI _ _ _) fun u2 c=> ?_;subst c)|(go_at_call 149;refine qC (pF 255 255 255 255 255 255 2054 L (by decide) (by decide) (aJ o (by decide))) g fun u3 p i v=> ?_))
 go_wp2;go_end0;exact⟨rfl,p,b.join i⟩
def S.qp(s:S)(k:Int):Int:=2*2 ^ k.toNat+s.draw%3-1
def xP(o:s.Ok)(k u:Int)(c:0<=k/\k<=4):
  Ms 123 [.agg #[E4 k,E4 u]] s (.agg #[E4 (k+1),E4 (wrap64 (s.now+s.qp k))]) s:=by
 intro w0 P w B l h;have r:=h.k;have b:s.draw.tmod 3=s.draw%3:=cZ o.draw.1;have a:0<=s.draw%3/\s.draw%3<=2:=by omega
 unfold S.qp;generalize s.draw%3=x at*
 rcases(by omega:k=0∨k=1∨k=2∨k=3∨k=4)with rfl|rfl|rfl|rfl|rfl
 all_goals
  simp only[Int.reduceToNat,Int.reducePow,Int.reduceMul,Int.reduceAdd];go_enter func123,ntmps123;go_wp2;go_quiet (fail);go_wp2;go_region
  go_wp2;exact aQ (v:=.agg #[E4 _,E4 _]) (by simp[results,results123,go_sem]) rfl ⟨rfl,l,((h.al.al.dn.sa (h.out 1)).sa (h.out 1)).x rfl rfl⟩
end Nu
namespace Nu
open Bs
open oh (Nb uw zZ U4 tu vT)
variable{w0 w w':kV}{P:Nat->Prop}{B:Nat}{cs:XV}{l l':Lc}{d d':Sd}{s s':S}
def Mw.nm(h:Mw w0 P w B cs l d){b:Nat}{c:List (Int×Nb)}(g:w.ownsMap aD1 53 uw b 4 (U4 c))(i:(c.map (·.1)).Nodup)(f:w0.heap.size<=b):Mw w0 P w B cs {l with bm:=b} {d with cl:=c}:=
 {h with own:=fun k a=>by
             rcases a with rfl|rfl|a
             · exact h.own _ (aG rfl)
             · exact aF f
             exact h.own k (aF (aF a)),
           map:=g,nd:=i}
def Mw.ni(h:Mw w0 P w B cs l d):Mw w0 P w B cs {l with img:=.slice none 0 0} {d with im:=[]}:=
 {h with own:=fun k a=>by
             rcases a with rfl|rfl|rfl|rfl|a
             · exact h.own _ (aG rfl)
             · exact h.own _ (aF (aG rfl))
             · exact h.own _ (aF (aF (aG rfl)))
             · exact h.own _ (aF (aF (aF (aG rfl))))
             (cases a),
           image:=aU _ _ _ _}
def ay3{n:Nat}(e:w.heap.size=n):(w.alloc (.map #[] 0)).ownsMap aD1 53 uw n 4 (U4 []):=e▸(World.ownsMap_made _ _ _ _).mono (by decide)
def Mw.dropped(h:Mw w0 P w B cs l d){n:Nat}(e:w.heap.size=n)(a:w0.heap.size<=n):Mw w0 P (w.alloc (.map #[] 0)) B cs ⟨n,l.cg,l.cf,l.gg,l.gf,.slice none 0 0⟩ ⟨d.rx,d.tx,d.cq,d.gq,[],[]⟩:=(h.al.nm (ay3 e) .nil a).ni
abbrev S.drop(s:S):S:={s with cl:=[],im:=[],st:=0,lM:=0,nZ:=0,qJ:=0,ws:=0,wu:=0,gr:=0,mask:=0,sV:=0,pz:=0,ends:=false,old:=0,qA:=0,over:=0,asked:=0,phase:=0,port:=0,oJ:=0,nK:=0,oL:=0,since:=0,pU:=0,sF:=0,sT:=0,sL:=⟨#[]⟩,fs:=0,fu:=0}
def vM:Ms 127 [] s (.tuple #[]) s.drop:=by
 intro w0 P w B l h;have A:= @run_makeMap aD1;have r:=(h.al (o:=.map #[] 0)).k;have q:=h.k;go_enter func127,ntmps127;go_wp2;go_end0;exact⟨rfl,_,Mw.x (Mw.dropped (l:=l) (d:=s.toSd) (by repeat first|apply Mw.st|exact h) (by simp) h.size) (by kernel_rfl) rfl⟩
abbrev S.fail(s:S):S:={s.drop with qV:=wrap64 (s.qV+1),phase:=if wrap64 (s.qV+1)=3 then 4 else 0}
def oQ:Ms 122 [] s (.tuple #[]) s.fail:=by
 intro w0 P w B l h
 by_cases b:wrap64 (s.qV+1)=3
 all_goals
  simp only[S.fail,b,bI,bD];go_enter func122,ntmps122;go_wp2_with (go_at_call 127;refine qC vM h fun u c a d=> ?_);go_end0;exact⟨rfl,c,by first|exact a.st.st.x rfl rfl|exact a.st.x rfl rfl⟩
def Bv(k u:Int){f:Nat}(e:f=84∨f=88)(g: ¬s.now<u-> ¬k=4->Ms f [] s (.tuple #[]) s'):
  Ms 83 [.agg #[E4 k,E4 u],.func (.func f) #[] #[]] s (.tuple #[]) (if s.now<u then s else if k=4 then s.fail else s'):=by
 intro w0 P w B l h;have r:=h.k
 by_cases a:s.now<u
 case pos=>
  rw[aB a];go_enter func83,ntmps83;go_wp2;go_quiet (fail);go_wp2;go_end0;exact⟨rfl,l,h.al.dn⟩
 by_cases c:k=4
 all_goals
  rcases e with rfl|rfl
 all_goals
  simp only[a,c,bI,bD];go_enter func83,ntmps83;go_wp2;go_quiet (fail);go_wp2_with (first|(go_at_call 122;refine qC oQ h.al.dn fun u1 d b i=> ?_)|refine qC (g a c) h.al.dn fun u1 d b i=> ?_);go_end0;exact⟨rfl,d,b⟩
end Nu
namespace Nu
open Bs
open Dh (lU lQ qd oW mV lH qQ heavy)
open oh (YB uo wE)
variable{w0 w w' x y:kV}{P:Nat->Prop}{B:Nat}{cs:XV}{l l':Lc}{d d':Sd}{s s':S}{v v':Value}{os bs:lU}
structure Sy (w x:kV) (v:Value) (os:lU):Prop where
 b:Below w.heap.size w x
 r:x.heap[w.heap.size]?=some (.cells zG_ 98 (0,0))
 o:x.ownsRow (w.heap.size+1) 151 2 v os.length (lQ os)
def Sy.lt(h:Sy w x v os):w.heap.size<x.heap.size:=aC h.r
def Sy.below(h:Sy w x v os)(a:y_ x y):Sy w y v os:=
 ⟨h.b.trans (a.mono (gL h.lt)),(a.block _ h.lt).trans h.r,lJ h.o (fun k c=>a.block k (h.o.lt k c).2)⟩
def Sy.grown(h:Sy w x v os)(d:y.ownsRow (w.heap.size+1) 151 2 v' bs.length (lQ bs))(a:x.grownBy y v.ownBlock):Sy w y v' bs:=
 have c:∀k,k<w.heap.size+1->y.heap[k]?=x.heap[k]?:=fun k c=>a.block k (by have:=h.lt;omega) (fun e=>by have:=(h.o.lt k e.symm).1;omega)
 ⟨⟨a.os.trans h.b.os,a.tape.trans h.b.tape,a.output.trans h.b.output,aJ h.b.size a.size,fun k A=>(c k (by omega)).trans (h.b.block k A)⟩,(c _ (by omega)).trans h.r,d⟩
def Yu{b:Array Oper}{rest:List Oper}{o:Oper}{a:Act}{Q:Exit->Act->kV->Prop}(A:o.guard=none)(p q:Operand)(t:TypeId)(s:prog.underlying t=some (.slice 151))
  (r:o.op=.call {callee:=.builtin .append,args:=#[p,q],argTypes:=#[184,t]}) (h:Sy w x v os) (C:YB x v' bs) (I:os.length<=10/\bs.length<=10) (m:a.eval p=v) (n:a.eval q=v')
  (k:∀z u,Sy w u z (os++bs)->wpList aD1 b Q rest (a.put o.dst z) u):wpList aD1 b Q (o::rest) a x:=by
 obtain⟨d,c,f,i,l⟩:=bZ qQ;obtain⟨G,H,rfl⟩:=lH h.o
 rcases C with⟨rfl,rfl⟩|⟨g,rfl,D⟩
 ·exact oh.wpList_append_run A p q _ t r _ _ _ m n (by rw[oh.Dz _ _ _ _ _ d c gm s];exact run_append_owned_none (P:=aD1) _ (w.heap.size+1) 184 _ 151 d 2 gm c _ _ _ h.o) (k _ _ (by rw[dJ];exact h))
 obtain⟨z,u,E,y,B,_⟩:=run_append_own (P:=aD1) x (w.heap.size+1) 184 o.type 151 d (.agg #[E8 0,.string ⟨#[]⟩]) 2 24 gm c f i l rfl (by decide) _ _ _ h.o (a_ g 0) bs.length bs.length (lQ bs) (oW _) (fun j u F=>by rw[nz,af _ _ j _ _ _ D,fB];exact F) (qd _) (by unfold maxLen;omega) (by omega) h.lt;exact oh.wpList_append_run A p q _ t r _ _ _ m n (by rw[oh.Dz _ _ _ _ _ d c gm s];exact E) (k _ _ (h.grown (by rw[au,mV];exact y) B))
def ab2(w:kV)(c:UInt8)(e:XU):YB (w.alloc (.cells #[E8 c.toNat,.string ⟨e.toArray⟩] 151)) (.slice (some (n_ w 0)) 1 1) [(c,e)]:=aF ⟨_,rfl,ah w _⟩
def ar1{a:UInt8}(b:Below ((w.alloc (.cells zG_ 98)).alloc (.cells #[E8 a.toNat] 5)).heap.size ((w.alloc (.cells zG_ 98)).alloc (.cells #[E8 a.toNat] 5)) x):
  Sy w (x.alloc (.cells #[E8 53,.string ⟨#[a]⟩] 151)) (.slice (some (n_ x 0)) 1 1) [(53,[a])]:=by
 have f:=b.size;simp at f;have d:=oh.ac0 x 53 [a];exact⟨((b1_.alloc (by simp) _).trans (b.mono (by simp;omega))).alloc (by omega) _,by rw[aO _ _ _ (by omega),b.block _ (by simp;omega)];exact oh.nN w _ _,
  ⟨d.1,d.2.imp id fun⟨g,c,r,e1,e2,e3⟩=>⟨g,c,r,e1,by cases e1;omega,e3⟩⟩⟩
def S.Cc(s:S)(kb:UInt8)(os:lU):XB:=Dh.Gz false s.lM s.addr 0 0 s.card (wE kb os)
def FH(h:Mx w0 P w B l s)(o:s.Ok)(a:UInt8)(U:YB w v os)(hl:os.length<=4)(V:heavy os<=1000):
  C_ 153 #[p_ B,E8 a.toNat,v] w (.agg (rG 68 67 (s.Cc a os))) fun u=>Mx w0 P u B l s:=by
 have m:(a=4/\((a.toNat:Int)!=4)=false)∨ ¬a=4/\((a.toNat:Int)!=4)=true:=by
  by_cases e:a=4
  ·exact aG ⟨e,by rw[e];rfl⟩
  exact aF ⟨e,by rw[dN];intro q;exact e (dS.1 (by simpa using(show a.toNat=4 by omega)))⟩
 have M:heavy (wE a os)<=2000:=by simp only[wE,heavy];split<;>simp[uo]<;>(unfold heavy at V;omega)
 have J:=oh.yY 53 (w.heap.size+1) 1 [a] ((w.alloc (.cells zG_ 98)).alloc (.cells #[E8 a.toNat] 5)) rfl (fun j W=>by
  rw[af _ _ j _ _ _ (oh.mK w _ _)]
  have:j=0:=by simp at W;omega
  subst this;rfl) (by simp)
 unfold S.Cc;obtain⟨c,A⟩:=ex_ (wE a os);rw[<-A]at M ⊢;have L:=ll A;clear A
 rcases m with⟨m,E⟩|⟨m,E⟩
 all_goals
  have t:=ll m;clear m;go_enter func153,ntmps153;go_wp2_with (first|(go_at_call 196;refine on_ J fun u1 z=> ?_;have y:Sy w (u1.alloc (.cells #[E8 53,.string ⟨#[a]⟩] 151)) (.slice (some (n_ u1 0)) 1 1) [(53,[a])]:=ar1 z;have f:=U.below y.b (ae _))|(at_builtin;refine Yu rfl (.tmp 12) (.tmp 13) 125 iU rfl y f ⟨by simp,by omega⟩ rfl rfl fun H u2 n=> ?_)|(go_at_call 197;refine on_ (oh.Re _) fun u3 C=> ?_;have O:=(n.below C).below ((aK _ _).alloc (ae _) (.cells #[E8 55,.string ⟨uo.toArray⟩] 151)))|(at_builtin;refine Yu rfl (.tmp 17) (.tmp 19) 184 gm rfl O (ab2 u3 55 uo) ⟨by simp;omega,by simp⟩ rfl rfl fun H u2 n=> ?_));have g:Sy w u2 H c:=by
   rw[L.out,wE];first|rw[aB t.out]|rw[az t.out]
   simpa using n
  clear n y f t;obtain⟨F,N,X⟩:=lH g.o;subst X;have T:Dh.At u2 F c:=oh.NU g.o;have p:=h.below g.b;have r:=p.k;have I:=g.lt;go_region_held3 (Cl · B (cells l s)) ((refine Mw.cell (w0:=w0) (P:=P) (l:=l) (d:=s.toSd) ?_;repeat with_reducible first|refine Mw.dr ?_|refine Mw.al ?_|exact p))
   (first|(go_at_call 74;refine on_ (mE (show Mx w0 P _ B l s from by repeat with_reducible first|refine Mw.dr ?_|refine Mw.al ?_|exact p)) fun u D=> ?_;subst D))
  all_goals
   go_wp2_with (first|(go_at_call 198;refine on_ (Dh.qY false s.lM s.addr 0 0 s.k0 s.k1 s.k2 s.k3 s.k4 s.k5 F N c _ o.lM (t_ o) (by omega) (by omega) (T.below (b1_.drew) (ae _)) (by omega)) fun u5 i=> ?_;have R:=p.al.dr.below i;have G:u5.heap[w.heap.size]?=some (.cells zG_ 98 (0,0)):=(i.block _ (by simp;omega)).trans ((aO _ _ _ I).trans g.r);obtain⟨e0,e1,e2,f0,f1,f2⟩:=oh.TH G)|(go_at_call 150;refine on_ (xI _ _ _) fun u6 D=> ?_;subst D));obtain⟨Y,Z,s2⟩:=oh.zQ G (E6 68) (E6 67) (.string (Dh.Gz false s.lM s.addr 0 0 [s.k0,s.k1,s.k2,s.k3,s.k4,s.k5] c));exact aQ (v:=.agg (rG 68 67 (Dh.Gz false s.lM s.addr 0 0 [s.k0,s.k1,s.k2,s.k3,s.k4,s.k5] c))) (by simp[results,results153,go_sem,Y,Z,s2]) rfl ⟨rfl,((R.sa (h.out 0)).sa (h.out 0)).sa (h.out 0)⟩
def Bj(mr:Bool)(lM a d b:Int)(c:XU)(os:lU):(Dh.Gz mr lM a d b c os).size<=1472:=by
 unfold Dh.Gz
 split
 ·show(#[]:Array UInt8).size<=_;simp
 split
 ·show(#[]:Array UInt8).size<=_;simp
 rename_i h
 show(Dh.Bf _).toArray.size<=_;have:=Dh.xZ (Dh.AU mr lM a d b c os);simp only[iy]
 by_cases f:1472<(Dh.Bf (Dh.AU mr lM a d b c os)).length
 ·rw[this]at f;exact absurd f h
 omega
abbrev S.say(s:S)(kb:UInt8)(os:lU):S:=s.DT 68 67 (s.Cc kb os)
def uO(h:Mx w0 P w B l s)(o:s.Ok)(a:UInt8)(f:YB w v os)(i:os.length<=4)(g:heavy os<=1000):
  C_ 124 #[p_ B,E8 a.toNat,v] w (.tuple #[]) fun u=>∃l',Mx w0 P u B l' (s.say a os):=by
 have j:=Bj false s.lM s.addr 0 0 s.card (wE a os);have b:=FH h o a f i g;go_enter func124,ntmps124;go_wp2_with (first|(go_at_call 153;refine on_ b fun u1 c=> ?_)|(go_at_call 152;refine qC (Sz o 68 67 (s.Cc a os) (by omega) (by omega) (aJ j (by omega))) c fun u2 k d m=> ?_));go_end0;exact⟨rfl,k,d⟩
def S.Da(s:S):lU:=[(50,nu s.nZ),(54,nu s.qJ)]
def DC(h:Mx w0 P w B l s)(o:s.Ok):D_ 125 #[p_ B] w fun e u=>∃g,e=.returned (.slice (some (a_ g 0)) 2 2)/\Mx w0 P u B l s/\u.heap[g]?=some (.cells (lQ s.Da).toArray 151 (0,0)):=by
 have r:=h.k;go_enter func125,ntmps125;go_wp2;go_region_held3 (Cl · B (cells l s)) ((refine Mw.cell (w0:=w0) (P:=P) (l:=l) (d:=s.toSd) ?_;repeat with_reducible first|refine Mw.dr ?_|refine Mw.al ?_|exact j|exact i|exact h))
  (first|(go_at_call_of 154 (Value.int .u8 50);refine on_ (oh.wK 50 s.nZ _ _ (by first|exact ah _ _|exact oh.mK _ _ _|exact oh.nN _ _ _|exact(c _ (by simp;try omega)).trans (oh.mK _ _ _)|exact(c _ (by simp;try omega)).trans (oh.nN _ _ _)|exact(f _ (by simp;try omega)).trans (oh.mK _ _ _)|exact(f _ (by simp;try omega)).trans (oh.nN _ _ _)) o.nZ) fun u1 a=> ?_;have i:Mx w0 P u1 B l s:=Mw.below (by repeat with_reducible first|refine Mw.dr ?_|refine Mw.al ?_|exact j|exact h) a;have c:=a.block)|(go_at_call_of 154 (Value.int .u8 54);refine on_ (oh.wK 54 s.qJ _ _ (by first|exact ah _ _|exact oh.mK _ _ _|exact oh.nN _ _ _|exact(c _ (by simp;try omega)).trans (oh.mK _ _ _)|exact(c _ (by simp;try omega)).trans (oh.nN _ _ _)|exact(f _ (by simp;try omega)).trans (oh.mK _ _ _)|exact(f _ (by simp;try omega)).trans (oh.nN _ _ _)) o.qJ) fun u2 b=> ?_;have j:Mx w0 P u2 B l s:=Mw.below (by repeat with_reducible first|refine Mw.dr ?_|refine Mw.al ?_|exact i|exact h) b;have f:=b.block))
 all_goals
  go_wp2;go_ret;exact⟨_,rfl,by repeat with_reducible first|refine Mw.dr ?_|refine Mw.al ?_|exact j|exact i,ah _ _⟩
def BJ:YB w (.slice none 0 0) []:=aG ⟨rfl,rfl⟩
def yT(s:S):s.Da.length<=4/\heavy s.Da<=1000:=⟨by simp[S.Da],by simp[S.Da,heavy,nu,nJ,mf]⟩
abbrev S.xe(s:S):S:={s with ws:=s.ws+1,wu:=wrap64 (s.now+s.qp s.ws)}
def S.yE(s:S):S:=if s.st=1 then s.xe.say 1 []else s.xe.say 3 s.Da
def Ja(o:s.Ok)(i:0<=s.ws/\s.ws<=4):Ms 84 [] s (.tuple #[]) s.yE:=by
 intro w0 P w B l h;have r:=h.k
 by_cases e:s.st=1
 all_goals
  simp only[S.yE,e,bI,bD];go_enter func84,ntmps84;go_wp2_with (first|(go_at_call 123;refine qC (xP o s.ws s.wu i) h fun u1 j a m=> ?_)|(go_at_call_of 124 (Value.slice none 0 0);refine on_ (uO (s:=s.xe) (a.st.st.x rfl rfl) o 1 BJ (by simp) (by simp[heavy])) fun u3 ⟨c,b⟩=> ?_)|(go_at_call 125;refine(DC (s:=s.xe) (a.st.st.x rfl rfl) o).mono ?_;rintro _ u2 ⟨g,rfl,d,f⟩)|(go_at_call 124;refine on_ (uO (s:=s.xe) d o 3 (aF ⟨g,rfl,f⟩) (yT s).1 (yT s).2) fun u3 ⟨c,b⟩=> ?_));go_end0;exact⟨rfl,c,b⟩
abbrev S.enter(s:S)(k:Int):S:=S.yE {s with st:=k,ws:=0,wu:=0}
def xC(o:s.Ok)(k:Int):Ms 82 [E4 k] s (.tuple #[]) (s.enter k):=by
 intro w0 P w B l h;have r:=h.k;go_enter func82,ntmps82;go_wp2_with (go_at_call 84;refine qC (Ja (s:={s with st:=k,ws:=0,wu:=0}) o (show(0:Int)<=0/\(0:Int)<=4 by decide)) (h.st.st.st.x rfl rfl) fun u1 b a c=> ?_);go_end0;exact⟨rfl,b,a⟩
abbrev S.decl(s:S):S:=(s.say 4 s.Da).fail
def KM(o:s.Ok):Ms 169 [] s (.tuple #[]) s.decl:=by
 intro w0 P w B l h;have r:=h.k;go_enter func169,ntmps169;go_wp2_with (first|(go_at_call 125;refine(DC h o).mono ?_;rintro _ u2 ⟨g,rfl,a,d⟩)|(go_at_call 124;refine on_ (uO a o 4 (aF ⟨g,rfl,d⟩) (yT s).1 (yT s).2) fun u3 ⟨i,b⟩=> ?_)|(go_at_call 122;refine qC oQ b fun u4 f c j=> ?_));go_end0;exact⟨rfl,f,c⟩
end Nu
namespace Nu
open Bs
variable{w0 w w' x y:kV}{P:Nat->Prop}{B:Nat}{cs:XV}{l l':Lc}{d d':Sd}{s s':S}{v v':Value}
structure Rp where
 mr:Bool
 lM:Int
 cl:Int
 yo:Int
 ne:Int
 k0:UInt8
 k1:UInt8
 k2:UInt8
 k3:UInt8
 k4:UInt8
 k5:UInt8
 sa:XO
 n:Nat
 sc:Nat
 sv:Int
abbrev Rp.c(p:Rp):XV:=(rF p.mr p.lM p.cl p.yo p.ne p.k0.toNat p.k1.toNat p.k2.toNat p.k3.toNat p.k4.toNat p.k5.toNat p.sa p.n p.sc p.sv)
def S.offer(s:S)(yo sv:Int):S:=if s.st=1/\yo≠0 then S.enter {s with nZ:=yo,qJ:=sv} 2 else s
def GQ(o:s.Ok)(p:Rp)(f:0<=p.yo/\p.yo<=4294967295)(d:0<=p.sv/\p.sv<=4294967295):Ms 255 [.agg p.c] s (.tuple #[]) (s.offer p.yo p.sv):=by
 intro w0 P w B l h;have r:=h.k
 by_cases a:s.st=1
 case neg=>
  have e:(s.st !=1)=true:=by simpa using a
  simp only[S.offer,a,f_,bD];go_enter func255,ntmps255;go_wp2;go_returns
  exact⟨rfl,l,h.al⟩
 by_cases b:p.yo=0
 case pos=>
  simp only[S.offer,a,b,ne_eq,not_true,and_false,bD];go_enter func255,ntmps255;go_wp2;go_returns
  exact⟨rfl,l,h.al⟩
 have e:(p.yo==0)=false:=by simpa using b
 rw[S.offer,aB ⟨a,b⟩];go_enter func255,ntmps255;go_wp2;go_region
 go_wp2_with (go_at_call 82;refine qC (xC (s:={s with nZ:=p.yo,qJ:=p.sv}) {o with nZ:=f,qJ:=d} 2) (h.st.st.al.dr.x rfl rfl) fun u1 g a i=> ?_);go_end0;exact⟨rfl,g,a⟩
def S.Sc(s:S)(sv:Int):S:=if(s.st=2∨s.st=4∨s.st=5∨s.st=6)/\(s.st=6∨sv=s.qJ)then s.drop else s
abbrev S.aC4(s:S):XV:=#[E4 s.st,E3 s.lM,E3 s.nZ,E3 s.qJ,E4 s.ws,E4 s.wu,E4 s.gr,E3 s.mask,E3 s.sV,E3 s.pz,.bool s.ends,E3 s.old,E3 s.qA,E3 s.over,E4 s.asked]
def S.from(s:S)(sv:Int):Bool:=s.st==6||sv==s.qJ
def FY(s:S)(b:Int)(w:kV):C_ 284 #[.agg s.aC4,E3 b] w (.bool (s.from b)) (y_ w):=by
 unfold S.from
 by_cases a:s.st=6
 ·rw[show(s.st==6)=true from by simpa using a,jD]
  have e:(s.st==6)=true:=by simpa using a
  have H:=ll a;clear a;go_enter func284,ntmps284;go_wp2;go_ret;exact⟨rfl,(aK _ _).alloc (ae _) _⟩
 have e:(s.st==6)=false:=by simpa using a
 rw[e,iG];clear a;go_enter func284,ntmps284;go_wp2;go_ret;exact⟨rfl,(aK _ _).alloc (ae _) _⟩
def yN{a n:Int}(h:a=n):(a==1)=(n==1)/\(a==2)=(n==2)/\(a==3)=(n==3)/\(a==4)=(n==4)/\(a==5)=(n==5)/\(a==6)=(n==6)/\(a==0)=(n==0)/\(a !=1)=(n !=1)/\(a !=2)=(n !=2)/\(a !=4)=(n !=4)/\(a !=6)=(n !=6):=by subst h;simp
def Lb(p:Rp):Ms 257 [.agg p.c] s (.tuple #[]) (s.Sc p.sv):=by
 intro w0 P w B l h;have r:=h.k
 by_cases a:s.st=2∨s.st=4∨s.st=5∨s.st=6
 case neg=>
  have t:(s.st==2)=false:=by simp;omega
  have v:(s.st==4)=false:=by simp;omega
  have y:(s.st==5)=false:=by simp;omega
  have z:(s.st==6)=false:=by simp;omega
  rw[S.Sc,az (fun q=>a q.1)];clear a;go_enter func257,ntmps257;go_wp2;go_end0;exact⟨rfl,l,h.al⟩
 have e:(s.Sc p.sv)=if s.from p.sv then s.drop else s:=by
  unfold S.Sc S.from;simp only[a,gM,iL,bK]
 rw[e];clear e;generalize hb:s.from p.sv=b;have i:=fun u=>FY s p.sv u;rw[hb]at i;clear hb
 rcases a with a|a|a|a
 all_goals
  have q:=yN a;clear a;go_enter func257,ntmps257;go_wp2;go_region_held3 (fun u=>Cl u B (cells l s)/\Cl u w.heap.size p.c) (exact⟨Mw.cell (w0:=w0) (P:=P) (l:=l) (d:=s.toSd) (by first|exact g|exact h.al.dr),by first|exact m|exact fun j=>af _ _ j _ _ _ (ah w _)⟩)
   (first|(go_at_call 284;refine on_ (i _) fun u1 f=> ?_;have g:Mx w0 P u1 B l s:=h.al.dr.below f;have m:Cl u1 w.heap.size p.c:=fun j=>(f.cell (p:=(n_ w j)) (by simp)).trans (af _ _ j _ _ _ (ah w _))))
  cases b
  ·go_wp2
   go_end0;exact⟨rfl,l,g⟩
  go_wp2_with (go_at_call 127;refine qC vM g fun u2 o n A=> ?_);go_end0;exact⟨rfl,o,n⟩
end Nu
end Go.Proofs.YtnbaacgmlbhhcaaGreatDoor
