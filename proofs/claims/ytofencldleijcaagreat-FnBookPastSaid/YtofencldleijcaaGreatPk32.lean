import Derived.Test.YtofencldleijcaaGreatPk04
import Derived.Laws.BitsLemmas
import Derived.Test.YtofencldleijcaaGreatPk03
import Derived.Test.YtofencldleijcaaGreatPk29
import Derived.Test.YtofencldleijcaaGreatPk30
import Derived.Test.YtofencldleijcaaGreatPk31
set_option maxRecDepth 100000
namespace Go.Proofs.YtofencldleijcaaGreat
open Go.RowKit Go.Proofs.Tryz
def U9 (x:Int)(b:UInt8):Int:=IntKind.u64.wrap (bits BinOp.xor IntKind.u64 x (IntKind.u64.wrap (b.toNat:Int))*1099511628211)
def LR (x:Int)(l:List UInt8):Int:=l.foldl U9 x
theorem NI (x:Int)(l m:List UInt8):LR x (l++m)=LR (LR x l) m:=List.foldl_append
theorem Vt (x:Int)(s:ByteArray)(k:Nat)(h:k<s.size):LR x (s.data.toList.take (k+1))=U9 (LR x (s.data.toList.take k)) s[k]:=by
 have h':k<s.data.toList.length:=by simpa using h
 rw[List.take_succ_eq_append_getElem h',NI];rfl
def VJ (v:Int)(i:Nat):Int:=v/2^(8*i)%256
def J8 (v:Int)(i:Nat):UInt8:=UInt8.ofNat (VJ v i).toNat
def JB (v:Int):List UInt8:=[J8 v 7,J8 v 6,J8 v 5,J8 v 4,J8 v 3,J8 v 2,J8 v 1,J8 v 0]
theorem IG (v:Int)(i:Nat):((J8 v i).toNat:Int)=VJ v i:=by have h1:0<=VJ v i:=Int.emod_nonneg _ Za;have h2:VJ v i<256:=Int.emod_lt_of_pos _ Za;unfold J8;rw[UInt8.toNat_ofNat'];omega
theorem Xj{a b:ByteArray}(h:a.data.toList=b.data.toList):a=b:=by cases a;cases b;simpa using h
theorem Hu (xs:List ByteArray):(JQ xs).data.toList=K3 xs++[10]:=by simp[JQ]
theorem UC (s k n d:ByteArray):s++(⟨#[119,97,110,116,32]⟩:ByteArray)++k++(⟨#[32]⟩:ByteArray)++n++(⟨#[32]⟩:ByteArray)++d++(⟨#[10]⟩:ByteArray)=s++JQ [⟨#[119,97,110,116]⟩,k,n,d]:=by apply Xj;simp[Hu,K3,Lib.join]
theorem Sm (s o k n v t h:ByteArray):s++(⟨#[119,114,105,116,101,32]⟩:ByteArray)++o++(⟨#[32]⟩:ByteArray)++k++(⟨#[32]⟩:ByteArray)++n++(⟨#[32]⟩:ByteArray)++v++(⟨#[32]⟩:ByteArray)++t++(⟨#[32]⟩:ByteArray)++h++(⟨#[10]⟩:ByteArray)=s++JQ [⟨#[119,114,105,116,101]⟩,o,k,n,v,t,h]:=by apply Xj;simp[Hu,K3,Lib.join]
def DI (n:Int):ByteArray:=⟨(Lib.decDigits n.toNat).toArray⟩
def Lo (x:Wt):ByteArray:=JQ [⟨#[119,97,110,116]⟩,x.kind,x.name,DI x.ver]
def Ls (x:Wr):ByteArray:=JQ [⟨#[119,114,105,116,101]⟩,DI x.op,x.kind,x.name,DI x.seen,⟨(R4 x.text).toArray⟩,x.hold]
def TV (u:Bu):Nat->ByteArray
 |0=>⟨#[]⟩
 |k+1=>TV u k++Lo (u.ws k)
def UX (u:Bu):Nat->ByteArray
 |0=>TV u u.wn
 |k+1=>UX u k++Ls (u.rs k)
def nQ (u:Bu):Nat->Int
 |0=>14695981039346656037
 |k+1=>LR (nQ u k) (Lo (u.ws k)).data.toList
def fN (u:Bu):Nat->Int
 |0=>nQ u u.wn
 |k+1=>LR (fN u k) (Ls (u.rs k)).data.toList
theorem fE (u:Bu)(k:Nat):nQ u k=LR 14695981039346656037 (TV u k).data.toList:=by induction k with
 |zero=>rfl
 |succ k ih=>
  have e:(TV u (k+1)).data.toList=(TV u k).data.toList++(Lo (u.ws k)).data.toList:=by simp[TV]
  rw[e,NI,<-ih];rfl
theorem Wp (u:Bu)(k:Nat):fN u k=LR 14695981039346656037 (UX u k).data.toList:=by induction k with
 |zero=>exact fE u u.wn
 |succ k ih=>
  have e:(UX u (k+1)).data.toList=(UX u k).data.toList++(Ls (u.rs k)).data.toList:=by simp[UX]
  rw[e,NI,<-ih];rfl
theorem YH (y:Int):IntKind.u64.wrap y=y%18446744073709551616:=by unfold IntKind.wrap;simp[IntKind.signed,IntKind.bits]
theorem Ts (x:Int)(b:UInt8):0<=U9 x b/\U9 x b<18446744073709551616:=by unfold U9;rw[YH];exact⟨Int.emod_nonneg _ Za,Int.emod_lt_of_pos _ Za⟩
theorem aD (l:List UInt8):∀(x:Int),0<=x->x<18446744073709551616->0<=LR x l/\LR x l<18446744073709551616:=by induction l with
 |nil=>exact λx h0 h1=>⟨h0,h1⟩
 |cons b l ih=>exact λx _ _=>ih (U9 x b) (Ts x b).1 (Ts x b).2
theorem iG (u:Bu)(k:Nat):0<=fN u k/\fN u k<18446744073709551616:=by rw[Wp];exact aD _ _ Za Za
def KL (u:Bu):ByteArray:=⟨(JB (fN u u.rn)).toArray⟩
structure Ca where
 client:ByteArray
 num:Int
 bu:Bu
abbrev vC (x:Ca)(a b:OA)(d e:Nat):Array Value:=#[.s x.client,.i x.num,.l a x.bu.wn d,.l b x.bu.rn e]
abbrev rJ (x:Ca)(a b:OA)(d e:Nat):List Value:=[.s x.client,.i x.num,.l a x.bu.wn d,.l b x.bu.rn e]
structure Sa where
 code:Int
 ver:Int
 again:Bool
abbrev vS (x:Sa):Array Value:=#[.i x.code,.i x.ver,.bool x.again]
abbrev rW (x:Sa):List Value:=[.i x.code,.i x.ver,.bool x.again]
def T4 (c:Ca):Bool:=By c.client&&DW c.num 1 1000000
structure OX (u:Bu):Prop where
 w:∀i,i<u.wn->(u.ws i).ver<=9223372036854775807
 r:∀i,i<u.rn->(u.rs i).seen<=9223372036854775807
structure Rk (c:Ca):Prop where
 n:(c.client.size:Int)<=140737488355328
 u:Ku c.bu
 i:OX c.bu
def LT (B:Bk)(cl:ByteArray):Ti:=B.ts (DO B cl)
def KZ (B:Bk)(c:Ca):Ti:=⟨c.client,c.num,KL c.bu,Ct B c.bu,CG B c.bu⟩
def Jy (x:Nat->Ti)(k:Nat)(is:Bool)(t:Ti):Nat->Ti:=λi=>if i<k then x i else if i=k then t else x (if is then i else i-1)
def MD (B:Bk)(c:Ca):Bool:=if Hv B c.client then decide ((LT B c.client).num<c.num)else decide (B.tn<50)
def JE (B:Bk)(c:Ca):Bk:={BI B c.bu with tn:=if Hv B c.client then B.tn else B.tn+1,ts:=Jy B.ts (DO B c.client) (Hv B c.client) (KZ B c)}
def Gu (B:Bk)(c:Ca):Sa:=if T4 c=false then⟨1,0,false⟩else if MC c.bu=false then⟨2,0,false⟩else if MD B c=true then⟨Ct B c.bu,CG B c.bu,false⟩else if Hv B c.client=false then⟨6,0,false⟩else if c.num<(LT B c.client).num then⟨8,0,false⟩else if KL c.bu=(LT B c.client).print then⟨(LT B c.client).code,(LT B c.client).ver,true⟩else⟨7,0,false⟩
def FM (B:Bk)(c:Ca):Bk:=if T4 c=true/\MC c.bu=true/\MD B c=true then JE B c else B
theorem Vl (B:Bk)(v:Wr):¬Bv B v=2:=by
 unfold Bv Dp;repeat' split
 all_goals decide
theorem Vx (B:Bk)(x:Bu):¬Ct B x=2:=by
 unfold Ct;split;.decide
 .split;.exact Vl _ _
  .decide
theorem gP{B:Bk}(hv:Be (Hw B) 7=true):Gg B.tn B.ts B.now=true:=by rw[AC]at hv;exact hv 6 Zb
theorem Uc{B:Bk}(hv:Be (Hw B) 7=true):B.tn<=50:=by have h:=gP hv;unfold Gg at h;rw[Ak]at h;exact of_decide_eq_true h.1
theorem Nr (B:Bk)(cl:ByteArray):DO B cl<=B.tn:=(IS _ _ _).1
theorem Ho{s:ByteArray}(h:By s=true):s.size<=20:=by unfold By DW at h;simp only[Ak,decide_eq_true_eq]at h;have:=h.1.2;omega
def GK (x:Nat->Ti)(j:Nat):Value:=match j%5 with|0=>.s (x (j/5)).client|1=>.i (x (j/5)).num|2=>.s (x (j/5)).print|3=>.i (x (j/5)).code|_=>.i (x (j/5)).ver
theorem WF (x:Nat->Ti)(i:Nat):GK x (i*5)=.s (x i).client/\GK x (i*5+1)=.i (x i).num/\GK x (i*5+2)=.s (x i).print/\GK x (i*5+3)=.i (x i).code/\GK x (i*5+4)=.i (x i).ver:=by
 have e:∀r,r<5->(i*5+r)%5=r/\(i*5+r)/5=i:=λr hr=>⟨Zb,Zb⟩;unfold GK;refine⟨?_,?_,?_,?_,?_⟩;.rw[show(i*5)%5=0 by omega,show(i*5)/5=i by omega];rfl
 .rw[(e 1 Zb).1,(e 1 Zb).2];rfl
 .rw[(e 2 Zb).1,(e 2 Zb).2];rfl
 .rw[(e 3 Zb).1,(e 3 Zb).2];rfl
 .rw[(e 4 Zb).1,(e 4 Zb).2];rfl
theorem Jo (x:Nat->Ti)(j:Nat):(GK x j).oneCell'=true:=by unfold GK;split<;>rfl
theorem Tz (x:Nat->Ti)(y:Nat->Ti)(k:Nat)(z:Nat->Ti)(hz:∀i,z i=if i<k then x i else y (i-k))(j:Nat):(if j<k*5 then GK x j else GK y (j-k*5))=GK z j:=by
 have h:=hz (j/5);unfold GK;by_cases hj:j<k*5;.rw[if_pos hj,h,if_pos Zb]
 .rw[if_neg hj,h,if_neg Zb,show(j-k*5)%5=j%5 by omega,show(j-k*5)/5=j/5-k by omega]
end Go.Proofs.YtofencldleijcaaGreat
