import Derived.Test.YtnnjcenacidceaaGreatPk05
import Derived.Laws.BitsLemmas
import Derived.Test.YtnnjcenacidceaaGreatPk03
import Derived.Test.YtnnjcenacidceaaGreatPk26
import Derived.Test.YtnnjcenacidceaaGreatPk27
import Derived.Test.YtnnjcenacidceaaGreatPk28
set_option maxRecDepth 100000
namespace Go.Proofs.YtnnjcenacidceaaGreat
open Go.RowKit Go.Proofs.Tryz
def YF (x:Int)(b:UInt8):Int:=IntKind.u64.wrap (bits BinOp.xor IntKind.u64 x (IntKind.u64.wrap (b.toNat:Int))*1099511628211)
def PU (x:Int)(l:List UInt8):Int:=l.foldl YF x
theorem Sf (x:Int)(l m:List UInt8):PU x (l++m)=PU (PU x l) m:=List.foldl_append
theorem Yo (x:Int)(s:ByteArray)(k:Nat)(h:k<s.size):PU x (s.data.toList.take (k+1))=YF (PU x (s.data.toList.take k)) s[k]:=by
 have h':k<s.data.toList.length:=by simpa using h
 rw[List.take_succ_eq_append_getElem h',Sf];rfl
def ZN (v:Int)(i:Nat):Int:=v/2^(8*i)%256
def Og (v:Int)(i:Nat):UInt8:=UInt8.ofNat (ZN v i).toNat
def NA (v:Int):List UInt8:=[Og v 7,Og v 6,Og v 5,Og v 4,Og v 3,Og v 2,Og v 1,Og v 0]
theorem MV (v:Int)(i:Nat):((Og v i).toNat:Int)=ZN v i:=by have h1:0<=ZN v i:=Int.emod_nonneg _ Zb;have h2:ZN v i<256:=Int.emod_lt_of_pos _ Zb;unfold Og;rw[UInt8.toNat_ofNat'];omega
theorem dC{a b:ByteArray}(h:a.data.toList=b.data.toList):a=b:=by cases a;cases b;simpa using h
theorem MA (xs:List ByteArray):(NP xs).data.toList=Ph xs++[10]:=by simp[NP,]
theorem YH (s k n d:ByteArray):s++(⟨#[119,97,110,116,32]⟩:ByteArray)++k++(⟨#[32]⟩:ByteArray)++n++(⟨#[32]⟩:ByteArray)++d++(⟨#[10]⟩:ByteArray)=s++NP [⟨#[119,97,110,116]⟩,k,n,d]:=by apply dC;simp[MA,Ph,Lib.join]
theorem Xn (s o k n v t h:ByteArray):s++(⟨#[119,114,105,116,101,32]⟩:ByteArray)++o++(⟨#[32]⟩:ByteArray)++k++(⟨#[32]⟩:ByteArray)++n++(⟨#[32]⟩:ByteArray)++v++(⟨#[32]⟩:ByteArray)++t++(⟨#[32]⟩:ByteArray)++h++(⟨#[10]⟩:ByteArray)=s++NP [⟨#[119,114,105,116,101]⟩,o,k,n,v,t,h]:=by apply dC;simp[MA,Ph,Lib.join]
def Ep (n:Int):ByteArray:=⟨(Lib.decDigits n.toNat).toArray⟩
def Pj (x:Wt):ByteArray:=NP [⟨#[119,97,110,116]⟩,x.kind,x.name,Ep x.ver]
def Po (x:Wr):ByteArray:=NP [⟨#[119,114,105,116,101]⟩,Ep x.op,x.kind,x.name,Ep x.seen,⟨(V9 x.text).toArray⟩,x.hold]
def Yc (u:Bu):Nat->ByteArray
 |0=>⟨#[]⟩
 |k+1=>Yc u k++Pj (u.ws k)
def YW (u:Bu):Nat->ByteArray
 |0=>Yc u u.wn
 |k+1=>YW u k++Po (u.rs k)
def xL (u:Bu):Nat->Int
 |0=>14695981039346656037
 |k+1=>PU (xL u k) (Pj (u.ws k)).data.toList
def oV (u:Bu):Nat->Int
 |0=>xL u u.wn
 |k+1=>PU (oV u k) (Po (u.rs k)).data.toList
theorem qD (u:Bu)(k:Nat):xL u k=PU 14695981039346656037 (Yc u k).data.toList:=by induction k with
 |zero=>rfl
 |succ k ih=>
  have e:(Yc u (k+1)).data.toList=(Yc u k).data.toList++(Pj (u.ws k)).data.toList:=by simp[Yc,]
  rw[e,Sf,<-ih];rfl
theorem eR (u:Bu)(k:Nat):oV u k=PU 14695981039346656037 (YW u k).data.toList:=by induction k with
 |zero=>exact qD u u.wn
 |succ k ih=>
  have e:(YW u (k+1)).data.toList=(YW u k).data.toList++(Po (u.rs k)).data.toList:=by simp[YW,]
  rw[e,Sf,<-ih];rfl
theorem jF (y:Int):IntKind.u64.wrap y=y%18446744073709551616:=by unfold IntKind.wrap;simp[IntKind.signed,IntKind.bits]
theorem Xw (x:Int)(b:UInt8):0<=YF x b/\YF x b<18446744073709551616:=by unfold YF;rw[jF];exact⟨Int.emod_nonneg _ Zb,Int.emod_lt_of_pos _ Zb⟩
theorem mP (l:List UInt8):∀(x:Int),0<=x->x<18446744073709551616->0<=PU x l/\PU x l<18446744073709551616:=by induction l with
 |nil=>exact λx h0 h1=>⟨h0,h1⟩
 |cons b l ih=>exact λx _ _=>ih (YF x b) (Xw x b).1 (Xw x b).2
theorem rE (u:Bu)(k:Nat):0<=oV u k/\oV u k<18446744073709551616:=by rw[eR];exact mP _ _ Zb Zb
def OG (u:Bu):ByteArray:=⟨(NA (oV u u.rn)).toArray⟩
structure Ca where
 client:ByteArray
 num:Int
 bu:Bu
abbrev vC (x:Ca)(a b:OA)(d e:Nat):Array Value:=#[.s x.client,.i x.num,.l a x.bu.wn d,.l b x.bu.rn e]
abbrev ay (x:Ca)(a b:OA)(d e:Nat):List Value:=[.s x.client,.i x.num,.l a x.bu.wn d,.l b x.bu.rn e]
structure Sa where
 code:Int
 ver:Int
 again:Bool
abbrev vS (x:Sa):Array Value:=#[.i x.code,.i x.ver,.bool x.again]
abbrev dc (x:Sa):List Value:=[.i x.code,.i x.ver,.bool x.again]
def Yi (c:Ca):Bool:=BB c.client&&EX c.num 1 1000000
structure S9 (u:Bu):Prop where
 w:∀i,i<u.wn->(u.ws i).ver<=9223372036854775807
 r:∀i,i<u.rn->(u.rs i).seen<=9223372036854775807
structure Vm (c:Ca):Prop where
 n:(c.client.size:Int)<=140737488355328
 u:OC c.bu
 i:S9 c.bu
def PN (B:Bk)(cl:ByteArray):Ti:=B.ts (EG B cl)
def Pd (B:Bk)(c:Ca):Ti:=⟨c.client,c.num,OG c.bu,Cw B c.bu,CM B c.bu⟩
def Ny (x:Nat->Ti)(k:Nat)(is:Bool)(t:Ti):Nat->Ti:=λi=>if i<k then x i else if i=k then t else x (if is then i else i-1)
def QJ (B:Bk)(c:Ca):Bool:=if MC B c.client then decide ((PN B c.client).num<c.num)else decide (B.tn<50)
def NF (B:Bk)(c:Ca):Bk:={BJ B c.bu with tn:=if MC B c.client then B.tn else B.tn+1,ts:=Ny B.ts (EG B c.client) (MC B c.client) (Pd B c)}
def Ma (B:Bk)(c:Ca):Sa:=if Yi c=false then⟨1,0,false⟩else if QK c.bu=false then⟨2,0,false⟩else if QJ B c=true then⟨Cw B c.bu,CM B c.bu,false⟩else if MC B c.client=false then⟨6,0,false⟩else if c.num<(PN B c.client).num then⟨8,0,false⟩else if OG c.bu=(PN B c.client).print then⟨(PN B c.client).code,(PN B c.client).ver,true⟩else⟨7,0,false⟩
def LI (B:Bk)(c:Ca):Bk:=if Yi c=true/\QK c.bu=true/\QJ B c=true then NF B c else B
theorem YN (B:Bk)(v:Wr):¬BN B v=2:=by
 unfold BN Ed;repeat' split
 all_goals decide
theorem Yn (B:Bk)(x:Bu):¬Cw B x=2:=by
 unfold Cw;split;.decide
 .split;.exact YN _ _
  .decide
theorem oT{B:Bk}(hv:Bg (Me B) 7=true):LS B.tn B.ts B.now=true:=by rw[AV]at hv;exact hv 6 Za
theorem Tk{B:Bk}(hv:Bg (Me B) 7=true):B.tn<=50:=by have h:=oT hv;unfold LS at h;rw[Am]at h;exact of_decide_eq_true h.1
theorem Sb (B:Bk)(cl:ByteArray):EG B cl<=B.tn:=(M2 _ _ _).1
theorem Mx{s:ByteArray}(h:BB s=true):s.size<=20:=by unfold BB EX at h;simp only[Am,decide_eq_true_eq]at h;have:=h.1.2;omega
def Lo (x:Nat->Ti)(j:Nat):Value:=match j%5 with|0=>.s (x (j/5)).client|1=>.i (x (j/5)).num|2=>.s (x (j/5)).print|3=>.i (x (j/5)).code|_=>.i (x (j/5)).ver
theorem TO (x:Nat->Ti)(i:Nat):Lo x (i*5)=.s (x i).client/\Lo x (i*5+1)=.i (x i).num/\Lo x (i*5+2)=.s (x i).print/\Lo x (i*5+3)=.i (x i).code/\Lo x (i*5+4)=.i (x i).ver:=by
 have e:∀r,r<5->(i*5+r)%5=r/\(i*5+r)/5=i:=λr hr=>⟨Za,Za⟩;unfold Lo;refine⟨?_,?_,?_,?_,?_⟩;.rw[show(i*5)%5=0 by omega,show(i*5)/5=i by omega];rfl
 .rw[(e 1 Za).1,(e 1 Za).2];rfl
 .rw[(e 2 Za).1,(e 2 Za).2];rfl
 .rw[(e 3 Za).1,(e 3 Za).2];rfl
 .rw[(e 4 Za).1,(e 4 Za).2];rfl
theorem Ml (x:Nat->Ti)(j:Nat):(Lo x j).oneCell'=true:=by unfold Lo;split<;>rfl
theorem XH (x:Nat->Ti)(y:Nat->Ti)(k:Nat)(z:Nat->Ti)(hz:∀i,z i=if i<k then x i else y (i-k))(j:Nat):(if j<k*5 then Lo x j else Lo y (j-k*5))=Lo z j:=by
 have h:=hz (j/5);unfold Lo;by_cases hj:j<k*5;.rw[if_pos hj,h,if_pos Za]
 .rw[if_neg hj,h,if_neg Za,show(j-k*5)%5=j%5 by omega,show(j-k*5)/5=j/5-k by omega]
end Go.Proofs.YtnnjcenacidceaaGreat
