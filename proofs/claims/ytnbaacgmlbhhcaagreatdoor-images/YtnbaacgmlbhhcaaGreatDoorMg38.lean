import Derived.Test.YtnbaacgmlbhhcaaGreatDoorMg36
import Derived.Test.YtnbaacgmlbhhcaaGreatDoorMg37
set_option linter.all false
set_option maxHeartbeats 8000000
set_option maxRecDepth 10000
open Go.ChangeShapes Go.WideShapes Go.ChangeAt Go.RowKit
open Go renaming World → kV
open Go.Proofs.Tryz
namespace Go.Proofs.YtnbaacgmlbhhcaaGreatDoor
namespace Hs
open Hb Ht Hm
def Z4(s:XB)(l:XU)(B gp:Nat)(vH vK:Value)(ks:XI)(K:Nat->Nat)(w:kV)(e2:s.data.toList=l)(hl:l.length<=1048576)(hT:Tb w B gp vH vK (hI st0) ks)(e1:ks.length=64)(h3:∀j,j<64->ks.getD j 0=(K j:Int))(hK:∀j,K j<4294967296):
  C_ 144 #[p_ B,.string s] w (.string ⟨(wh K l).toArray⟩) (y_ w):=by
 obtain⟨i0,hi,hz0,hz1,hz2⟩:=bZ Ba;obtain⟨gK,cK,rfl,g',b7⟩:=tT hT.oK e1 (by omega);obtain⟨gH,cH,rfl,g9,b6⟩:=tT (n:=8) hT.oH rfl (by omega);have d9:=aC hT.box;have h5:=b7.lt;have h4:=b6.lt;have a8:=ll hT.box;have g1:=ll b7;have g0:=ll b6;have h7:s=⟨l.toArray⟩:=by rw[<-e2]
 subst h7;obtain⟨z,W⟩:=ex_ (uy l.length);have hz64:z<64:=by rw[W];unfold uy;omega
 have f5:Hid (∀j,j<=z->((l.length+1+j)%64=56↔j=z)):=ll (fun j hj=>by rw[W]at hj ⊢;exact Na _ _ hj);have g7:=ll W;have hw8:IntKind.i64.wrap ((l.length:Int)*8)=(l.length:Int)*8:=Hb.wrap_i64 _ (by omega) (by omega);have i1:(((⟨l.toArray⟩:XB).size:Nat):Int)=(l.length:Int):=by rw[lF]
 clear W e2 hT b7 b6 g' g9;obtain⟨N0,hN0⟩:=ex_ w.heap.size;go_enter func144,ntmps144;go_wp2;go_loopw [1] (fun T wr=>∃j,j<=z/\T=.string ⟨(wD l j).toArray⟩/\w=wr) (fun T _=>l.length+100-ZJ T)
 case atStart=>exact⟨0,aR _,by rw[show(⟨#[128]⟩:XB)=⟨[(128:UInt8)].toArray⟩from rfl,nC];rfl,rfl⟩
 obtain⟨j,hj,rfl,rfl⟩:=hrel;have a6:=f5 j hj;have a7:(⟨(wD l j).toArray⟩:XB).size=l.length+1+j:=by rw[lF,ow]
 obtain⟨sj,Y⟩:∃sj:XB,sj=⟨(wD l j).toArray⟩:=⟨_,rfl⟩;rw[<-Y]at a7 ⊢;have d5:=ll Y;have d7:=ll a7
 by_cases ej:j=z
 ·have q1:(((sj.size:Nat):Int)%64 !=56)=false:=by have:=a6.2 ej;simp;omega
  have f4:=ll ej;clear Y a7 a6 ej;go_wp2;go_loopw [1,6] (fun T i wr=>∃k:Nat,k<=8/\i=E4 (7-(k:Int))/\T=.string ⟨(wD l z++zY l.length k).toArray⟩/\Hid (y_ w wr)) (fun _ i _=>(intOf i+1).toNat)
  case atStart=>exact⟨0,by omega,rfl,by rw[lq d5,lq f4];simp[zY],ll (aK _ _)⟩
  obtain⟨k,hk,rfl,rfl,G⟩:=hrel;rename kV=>wr;have a2:=G.size;obtain⟨sk,d1⟩:∃sk:XB,sk=⟨(wD l z++zY l.length k).toArray⟩:=⟨_,rfl⟩;rw[<-d1];have b3:=ll d1;clear d1
  by_cases hk8:k<8
  ·have h1:(0:Int)<=7-(k:Int):=by omega
   have e7:(k:Int)<=7:=by omega
   obtain⟨x,C⟩:∃x:UInt8,x=UInt8.ofNat (l.length*8/2 ^ (56-8*k)%256):=⟨_,rfl⟩;have e5:((x.toNat:Nat):Int)=(l.length:Int)*8/2 ^ (56-8*k)%256:=by rw[C];exact Ma _ _
   have i6:(8*(7-(k:Int))).toNat=56-8*k:=by omega
   have hw7:IntKind.i64.wrap (8*(7-(k:Int)))=8*(7-(k:Int)):=nU _ (by omega) (by omega);have hw6:IntKind.i64.wrap (7-(k:Int)-1)=7-(k:Int)-1:=nU _ (by omega) (by omega);have HX:=ll C;have g6:=ll e5;clear C e5;have b8:=Bw wr x _ g6;have b9: ¬9223372036854775807<sk.size+1:=by rw[lq b3,lF,au,ow,uB];omega
   go_wp2;refine⟨⟨k+1,by omega,by go_num,?_,ll (G.alloc a2 _)⟩,by simp[intOf];omega⟩;rw[lq b3,show(⟨#[x]⟩:XB)=⟨[x].toArray⟩from rfl,nC,Iy,<-lq HX,bY]
  have X:k=8:=by omega
  have h1: ¬(0:Int)<=7-(k:Int):=by omega
  have e7: ¬(k:Int)<=7:=by omega
  have d2:sk=⟨(v_ l).toArray⟩:=by rw[lq b3,X,lq g7];rfl
  have HS8:=ll d2;clear X d2;have E:=G.block B d9;rw[lq a8]at E;obtain⟨b0,b1⟩:=zC E;have a9:=ll (g0.below G h4);clear E;go_wp2_with (at_builtin;refine bN _ rfl (.const (.slice none 0 0)) (.tmp 50) 40 rfl w.heap.size 3 i0 (E4 0) 1 8 iQ hi hz0 hz1 hz2 rfl (by decide) (.slice none 0 0) 0 [] rfl (aU _ _ _ _) (a_ gH 0) 8 cH (c64 (hI st0)) rfl rfl ?c1 ?one ?h63 ?hby ?hba ?_)
  case c1=>exact fun j u h=>by have q:=MM a9 j u h;rwa [Bs.nz]at q
  case one=>exact P7 _
  case h63=>simp only[maxLen];omega
  intro v7 w7 J hg _;have hB7:y_ w w7:=G.grown hg a2 (fun x C=>by simp[Value.ownBlock]at C);obtain⟨y,ch,rfl,i4,e0⟩:=tT (L:=hI st0) (n:=8) J rfl (by omega);obtain⟨M,hM⟩:∃M,(v_ l).length=64*M:=Dn l l.length;have HB7:=ll hB7;have HR7:Hid (Row w7 y (hI (st0.uG K (v_ l) 0))):=ll e0;have i2:M<=17000:=by
   have q:(v_ l).length<=l.length+100:=by unfold v_ D6;rw[au,ow,uB];unfold uy;omega
   omega
  have HM:=ll hM;clear J hg hB7 e0 hM b0 b1 a9 G;go_wp2;go_loopw [1] (fun T wr=>∃q,q<=M/\T=.string ⟨((v_ l).drop (64*q)).toArray⟩/\Hid (Row wr y (hI (st0.uG K (v_ l) q)))/\Hid (y_ w wr)) (fun T _=>ZJ T)
  case atStart=>exact⟨0,aR _,by rw[lq HS8];rfl,HR7,HB7⟩
  obtain⟨q,hq,rfl,HR,G⟩:=hrel;rename kV=>wr;have a2:=G.size;obtain⟨t,ht⟩:=ex_ (st0.uG K (v_ l) q);have a0:t.ok:=by rw[ht];exact St.El st0 K _ Jt q
  have HT:=ll ht;rw[<-ht]at HR;clear ht;have A:((v_ l).drop (64*q)).length=64*(M-q):=by rw[bz,lq HM];omega
  obtain⟨D,I⟩:∃D:XB,D=⟨((v_ l).drop (64*q)).toArray⟩:=⟨_,rfl⟩;have O:D.size=64*(M-q):=by rw[I,lF,A]
  rw[<-I]
  by_cases hqM:q<M
  ·obtain⟨b,hb⟩:=ex_ (((v_ l).drop (64*q)).take 64)
   have i3:b.length=64:=by rw[hb,aX,A];omega
   have f6:Hid (∀k:Nat,k<64->∀x:Int,x=k->∀u,(Instr.index 9 (.string D) (E4 x)).run prog u=.ok (E8 (b.getD k 0).toNat) u):=ll (fun k hk x C u=>by
    have q1:=uR D _ (by rw[I]) k (by rw[A];omega) x C u
    rw[q1,hb]
    congr 3
    rw[aL,aL,gY,aB hk])
   have h6:D.toList.isEmpty=false:=by
    rw[bi,I];show((v_ l).drop (64*q)).isEmpty=false;rw[jF];intro h0;have:=dF List.length h0;rw[A]at this;simp at this;omega
   have f3:=ll hb;have d6:=ll I;have h8:=ll A;have hs64:(64:Int)<=((D.size:Nat):Int):=by rw[O];omega
   have h':((D.size:Nat):Int)<=9223372036854775807:=by rw[O];omega
   have b5:=ll O;clear hb I A O;go_wp2;refine O8 b D wr f6 _ (fun c a d v w h=>by cases d<;>exact h) ?_;iterate 99 intro _
   intro v8 wx HO HV;have HO:=ll HO;have HV:=ll HV;have i7:=HV.size;obtain⟨g8,c8,rfl,hg8,hR8⟩:=tT (L:=wI b 64) (n:=64) (by rw[u_];exact HO) (u_ b 64) (by omega);have e9:=HR.lt;have e6:=hR8.lt;have b2:Hid (Row wx y (hI t)):=ll (HR.below HV e9);have HR8:=ll hR8;clear hR8 HO;go_wp2_with (at_builtin;refine bN _ rfl (.const (.slice none 0 0)) (.tmp 153) 40 rfl wx.heap.size 3 i0 (E4 0) 1 8 iQ hi hz0 hz1 hz2 rfl (by decide) (.slice none 0 0) 0 [] rfl (aU _ _ _ _) (a_ y 0) 8 ch (c64 (hI t)) rfl rfl ?c2 ?one2 ?h632 ?hby2 ?hba2 ?_)
   case c2=>exact fun j u h=>MM b2 j u h
   case one2=>exact P7 _
   case h632=>simp only[maxLen];omega
   case hby2=>omega
   case hba2=>first|omega|(simp;omega)
   intro v12 w2 J hg _;have hB2:y_ wx w2:=(aK _ wx).grown hg (ae _) (fun x C=>by simp[Value.ownBlock]at C);obtain⟨g12,c12,rfl,hg12,Z⟩:=tT (L:=hI t) (n:=8) J rfl (by omega);have HB2:=ll hB2;have HR12:Hid (Row w2 g12 (hI (t.rounds K (mh b) 0))):=ll Z;have f7:Hid (∀m,m<64->∀u:kV,y_ wx u->u.cell? (a_ gK m)=some (E4 (K m:Int))/\u.cell? (a_ g8 m)=some (E4 (mh b m:Int))/\u.cell? (a_ B 1)=some (.slice (some (a_ gK 0)) 64 cK)):=ll (fun m hm6 u hu=>by
    have hb1:=(G.trans (HV.mono a2)).trans (hu.mono (by omega))
    refine⟨?_,?_,?_⟩
    ·rw[(g1.below hb1 h5).cell m (by rw[e1];omega),h3 m (by omega)]
    ·rw[(HR8.below hu e6).cell m (by rw[u_];omega),Yn b 64 m (by omega)]
    have E:=hb1.block B d9
    rw[lq a8]at E
    exact(zC E).2)
   clear J hg hB2 Z;go_wp2;refine Mt t K b B gK cK g8 c8 g12 c12 wx w2 a0 hK f7 HR12 HB2 hg12 _ ?_;iterate 127 intro _
   intro g c wy i5 H F;have H:=ll H;have F:=ll F;obtain⟨r,hr⟩:=ex_ (t.rounds K (mh b) 64);have f1:r.ok:=by rw[hr];exact St.zA t K _ a0 64
   rw[<-hr]at H;have c0:t.plus r=st0.uG K (v_ l) (q+1):=by rw[hr,lq f3,lq HT];rfl
   have f8:=ll c0;have f0:g≠y:=by omega
   have hB0:y_ w wy:=(G.trans (HV.mono a2)).trans (F.mono (by omega));have HB0:=ll hB0;have HP0:Hid (Row wy y (Ny t r 0)):=ll (by rw[XC];exact b2.below F (by omega));clear c0 hB0 hr F b2 HR8 HV;go_wp2;go_loopw [279] (fun i o=>∃n:Nat,n<=8/\i=E4 n/\Hid (Row o y (Ny t r n))/\Hid (Row o g (hI r))/\Hid (y_ w o)) (fun i _=>8-(intOf i).toNat)
   case atStart=>exact⟨0,by omega,rfl,HP0,H,HB0⟩
   obtain⟨n,hn,rfl,V,HQ,HZ⟩:=hrel;rename kV=>o
   by_cases f:n<8
   ·have a4:(n:Int)<8:=by omega
    have pl:=NQ t a0 n;have rl:=NQ r f1 n;have d4:=ll (ag3 t r n f);have pc:o.cell? (a_ y n)=some (E4 (at8 t n:Int)):=by rw[V.cell n (by rw[vJ];exact f),ab8 t r n f]
    have rc:o.cell? (a_ g n)=some (E4 (at8 r n:Int)):=by rw[HQ.cell n (by rw[Hr];exact f),WY r n f]
    have pf:=V.free n;obtain⟨pa,c9⟩:=ex_ (at8 t n);obtain⟨ra,d0⟩:=ex_ (at8 r n);rw[<-c9,<-d0]at d4;rw[<-c9]at pc pl;rw[<-d0]at rc rl;have ws:IntKind.i64.wrap ((pa:Int)+(ra:Int))=(pa:Int)+(ra:Int):=nU _ (by omega) (by omega);have wn1:IntKind.i64.wrap ((n:Int)+1)=(n:Int)+1:=nU _ (by omega) (by omega);clear c9 d0;go_wp2;go_region
    all_goals go_wp2
    all_goals
     refine⟨⟨n+1,by omega,by go_num,ll ?_,ll (xS HQ f0),ll ((HZ.setCell (p:=(a_ y n)) (by show w.heap.size<=y;omega) _).drew)⟩,by simp[intOf];omega⟩;rw[<-lq d4];have q:=V.set n (((pa+ra)%4294967296:Nat):Int) (by rw[vJ];exact f);rw[show(((pa+ra)%4294967296:Nat):Int)=((pa:Int)+(ra:Int))%4294967296 by omega]at q ⊢;exact q
   have X:n=8:=by omega
   have a4: ¬(n:Int)<8:=by omega
   have f9:Hid (Row o y (hI (st0.uG K (v_ l) (q+1)))):=ll (by rw[<-lq f8,<-ag9,<-X];exact V);have e4:D.extract 64 D.size=⟨((v_ l).drop (64*(q+1))).toArray⟩:=by
    apply bg;rw[aT];apply bL;rw[eP,lq d6];show(((v_ l).drop (64*q)).drop 64).take _=_;rw[ik,bF,show 64*q+64=64*(q+1)by omega];rw[<-lq d6,lq b5,bz,lq HM];omega
   have d8:=ll e4;clear X e4;go_wp2;refine⟨⟨q+1,by omega,by rw[lq d8],f9,HZ⟩,?_⟩;simp only[ZJ];rw[lq d8,lF,bz,lq HM,lq b5];omega
  skip
  have eM:q=M:=by omega
  have e3:t=JZ K l:=by rw[lq HT,eM];unfold JZ;rw[lq HM];congr 1;omega
  have h6:D.toList.isEmpty=true:=by
   rw[bi,I];show((v_ l).drop (64*q)).isEmpty=true;rw[List.isEmpty_iff_length_eq_zero,A];omega
  have g5:=ll e3;clear I A O eM e3;go_wp2;go_loopw [20,298] (fun v20 i o=>∃n:Nat,n<=8/\i=E4 n/\v20=.string ⟨((wh K l).take (4*n)).toArray⟩/\Hid (Row o y (hI t))/\Hid (y_ w o)) (fun _ i _=>8-(intOf i).toNat)
  case atStart=>exact⟨0,by omega,rfl,by simp,HR,G⟩
  obtain⟨n,hn,rfl,rfl,V,HZ⟩:=hrel;rename kV=>o;have W:=HZ.size;obtain⟨so,U⟩:∃so:XB,so=⟨((wh K l).take (4*n)).toArray⟩:=⟨_,rfl⟩;have h9:so.size<=32:=by rw[U,lF,aX,wH];omega
  rw[<-U];have g4:=ll U
  by_cases f:n<8
  ·have a4:(n:Int)<8:=by omega
   have xl:=NQ t a0 n;have xc:o.cell? (a_ y n)=some (E4 (at8 t n:Int)):=by rw[V.cell n (by rw[Hr];exact f),WY t n f]
   obtain⟨x,C⟩:=ex_ (at8 t n);have d3:=WK K l n f x (by rw[C,lq g5]);rw[<-C]at xl xc;have b8:=XA o x;rw[show(x:Int)/16777216%256=(x:Int)/16777216 by omega]at b8;obtain⟨b4,N⟩:∃b4:XU,b4=[UInt8.ofNat (x/16777216%256),UInt8.ofNat (x/65536%256),UInt8.ofNat (x/256%256),UInt8.ofNat (x%256)]:=⟨_,rfl⟩;obtain⟨s4,R⟩:∃s4:XB,s4=⟨b4.toArray⟩:=⟨_,rfl⟩;rw[show(⟨#[UInt8.ofNat (x/16777216%256),UInt8.ofNat (x/65536%256),UInt8.ofNat (x/256%256),UInt8.ofNat (x%256)]⟩:XB)=s4 by rw[R,N]]at b8;rw[<-N]at d3;have f2:s4.size=4:=by rw[R,lF,N];rfl
   have b9: ¬9223372036854775807<so.size+s4.size:=by omega
   have wn1:IntKind.i64.wrap ((n:Int)+1)=(n:Int)+1:=nU _ (by omega) (by omega);have g3:=ll d3;have HS4:=ll R;clear C d3 N R f2 U;go_wp2;refine⟨⟨n+1,by omega,by go_num,?_,ll (V.below ((aK _ o).alloc (ae _) _) V.lt),ll (HZ.alloc W _)⟩,by simp[intOf];omega⟩;rw[lq g4,lq HS4,nC,lq g3]
  have X:n=8:=by omega
  have a4: ¬(n:Int)<8:=by omega
  have g2:Hid (so=⟨(wh K l).toArray⟩):=ll (by rw[U,X,bF (by rw[wH];omega)]);clear X U;go_wp2;go_ret;exact⟨by rw[lq g2];rfl,HZ⟩
 have q1:(((sj.size:Nat):Int)%64 !=56)=true:=by have h:=fun h=>ej (a6.1 h);simp;omega
 have h2:j+1<=z:=by omega
 clear Y a7 a6 ej;have b9: ¬9223372036854775807<sj.size+1:=by have q:=lq d7;omega
 go_wp2;refine⟨⟨j+1,h2,by rw[lq d5,show(⟨#[0]⟩:XB)=⟨[(0:UInt8)].toArray⟩from rfl,nC,IJ],trivial⟩,?_⟩;have q:=lq d7;have q2:(sj++(⟨#[0]⟩:XB)).size=sj.size+1:=by rw[bA];rfl
 simp only[ZJ,q2];omega
end Hs
end Go.Proofs.YtnbaacgmlbhhcaaGreatDoor
