import Derived.Test.YtdgacidndknceaaGreatDoorMg11
set_option linter.all false
set_option maxHeartbeats 1000000
open Go.ChangeShapes Go.WideShapes Go.ChangeAt Go.RowKit
open Go renaming World → fV, Calls → f_
open Go.Proofs.Tryz
namespace Go.Proofs.YtdgacidndknceaaGreatDoor
namespace gP
open Bs Rd
theorem BC(B:Nat)(l:List UInt8)(w:fV)(h:iL w B l)(hn:l.length<2):
  f_ prog 97 #[p_ B,.func (.func 98) #[] #[],.func (.func 99) #[] #[],.int .i64 3] w fun e w'=>e=.panicked (iH 1)/\w.grownBy w' (some B):=by
 have HN:=M0 (DV B l w h hn)
 clear h
 go_enter func97,ntmps97
 go_wp2_with fail
 refine HN.mono ?_
 rintro e w1 ⟨rfl,rfl⟩
 exact⟨rfl,rfl,il _ _⟩
theorem I4(B:Nat)(a b:UInt8)(l:List UInt8)(w:fV)(h:iL w B (a::b::l))(hs:(a::b::l).length<=maxLen)(ht:og.X6 (256*(a.toNat:Int)+(b.toNat:Int))=true):
  f_ prog 97 #[p_ B,.func (.func 98) #[] #[],.func (.func 99) #[] #[],.int .i64 3] w fun e w'=>e=.returned (.int .u16 (256*(a.toNat:Int)+(b.toNat:Int)))/\iL w' B l/\w.grownBy w' (some B):=by
 have HN:=M0 (jo B a b l w h hs)
 obtain⟨x,hx⟩:∃x,x=256*(a.toNat:Int)+(b.toNat:Int):=⟨_,rfl⟩
 rw[<-hx]at HN ht ⊢
 have HT:=M0 ht
 have HI:=M0 (fun u=>og.qN x u)
 clear h hx hs ht
 go_enter func97,ntmps97
 go_wp2_with fail
 refine HN.mono ?_
 rintro e w1 ⟨rfl,h1,g1⟩
 have H1:=M0 h1
 have G1:=M0 g1
 clear h1 g1
 go_wp2_with fail
 refine(HI _).mono ?_
 rintro e w2 ⟨rfl,rfl⟩
 rw[gB HT]
 go_wp2_with fail
 refine(oo _ _).mono ?_
 rintro _ w3 ⟨rfl,rfl⟩
 go_wp2
 go_ret
 exact⟨rfl,H1,G1⟩
theorem an8(B:Nat)(a b:UInt8)(l:List UInt8)(w:fV)(h:iL w B (a::b::l))(hs:(a::b::l).length<=maxLen)(ht:og.X6 (256*(a.toNat:Int)+(b.toNat:Int))=false):
  f_ prog 97 #[p_ B,.func (.func 98) #[] #[],.func (.func 99) #[] #[],.int .i64 3] w fun e w'=>e=.panicked (iH 3)/\w.grownBy w' (some B):=by
 have HN:=M0 (jo B a b l w h hs)
 obtain⟨x,hx⟩:∃x,x=256*(a.toNat:Int)+(b.toNat:Int):=⟨_,rfl⟩
 rw[<-hx]at HN ht
 have HT:=M0 ht
 have HI:=M0 (fun u=>og.qN x u)
 clear h hx hs ht
 go_enter func97,ntmps97
 go_wp2_with fail
 refine HN.mono ?_
 rintro e w1 ⟨rfl,h1,g1⟩
 have G1:=M0 g1
 clear h1 g1
 go_wp2_with fail
 refine(HI _).mono ?_
 rintro e w2 ⟨rfl,rfl⟩
 rw[gB HT]
 go_wp2_with fail
 refine(om _ _).mono ?_
 rintro _ w3 ⟨rfl,rfl⟩
 exact⟨rfl,rfl,G1⟩
theorem IL(B:Nat)(l:List UInt8)(w:fV)(h:iL w B l)(hs:l.length<=1099511627776)(ht:og.ko ⟨l.toArray⟩=true):
  f_ prog 100 #[p_ B,.func (.func 101) #[] #[],.func (.func 102) #[] #[],.int .i64 7] w fun e w'=>e=.returned (.string ⟨l.toArray⟩)/\iL w' B []/\w.grownBy w' (some B):=by
 have HN:=M0 (vO B l w h hs)
 have HT:=M0 ht
 have HI:=M0 (fun u=>og.qK ⟨l.toArray⟩ u)
 clear h hs ht
 go_enter func100,zA
 go_wp2_with fail
 refine HN.mono ?_
 rintro e w1 ⟨rfl,h1,g1⟩
 have H1:=M0 h1
 have G1:=M0 g1
 clear h1 g1
 go_wp2_with fail
 refine(HI _).mono ?_
 rintro e w2 ⟨rfl,rfl⟩
 rw[gB HT]
 go_wp2_with fail
 refine(oo _ _).mono ?_
 rintro _ w3 ⟨rfl,rfl⟩
 go_wp2
 go_ret
 exact⟨rfl,H1,G1⟩
theorem Gz(B:Nat)(l:List UInt8)(w:fV)(h:iL w B l)(hs:l.length<=1099511627776)(ht:og.ko ⟨l.toArray⟩=false):
  f_ prog 100 #[p_ B,.func (.func 101) #[] #[],.func (.func 102) #[] #[],.int .i64 7] w fun e w'=>e=.panicked (iH 7)/\w.grownBy w' (some B):=by
 have HN:=M0 (vO B l w h hs)
 have HT:=M0 ht
 have HI:=M0 (fun u=>og.qK ⟨l.toArray⟩ u)
 clear h hs ht
 go_enter func100,zA
 go_wp2_with fail
 refine HN.mono ?_
 rintro e w1 ⟨rfl,h1,g1⟩
 have G1:=M0 g1
 clear h1 g1
 go_wp2_with fail
 refine(HI _).mono ?_
 rintro e w2 ⟨rfl,rfl⟩
 rw[gB HT]
 go_wp2_with fail
 refine(om _ _).mono ?_
 rintro _ w3 ⟨rfl,rfl⟩
 exact⟨rfl,rfl,G1⟩
end gP
end Go.Proofs.YtdgacidndknceaaGreatDoor
