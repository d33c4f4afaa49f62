import Derived.Test.YtdgneicbmalnpaaGreatDoorD0
set_option linter.all false
set_option maxHeartbeats 0
set_option maxRecDepth 99999
open Go.Value renaming slice->Sa,string->Sb,int->Sc,pointer->Sd
open Go.IntKind renaming i64->Se
namespace Go.Proofs.YtdgneicbmalnpaaGreatDoor
open Proofs.Tryz Go.RowKit
variable{w w':World}{a:OA}
structure G3 where
 nm:Bool
 tl:BY
 ar:BY
def Jh:G3:=⟨false,⟨#[]⟩,⟨#[]⟩⟩
def G3.v(x:G3):Value:=.agg #[.bool x.nm,Sb x.tl,Sb x.ar]
def G3.le(x:G3)(B:Nat):Prop:=x.tl.size<=B/\x.ar.size<=B
def R_(w:World)(a:OA)(is:List G3):Prop:=
 is=[]\/∃b off,a=some ⟨b,off,none⟩/\b<w.heap.size/\∀i,i<is.length->w.cell? ⟨b,off+i*3,none⟩=some (.bool (is.getD i Jh).nm)/\w.cell? ⟨b,off+i*3+1,none⟩=some (Sb (is.getD i Jh).tl)/\w.cell? ⟨b,off+i*3+2,none⟩=some (Sb (is.getD i Jh).ar)
theorem Ji{is:List G3}(h:R_ w a is):∃b off,(is=[]\/(a=some ⟨b,off,none⟩/\b<w.heap.size/\∀i,i<is.length->w.cell? ⟨b,off+i*3,none⟩=some (.bool (is.getD i Jh).nm)/\w.cell? ⟨b,off+i*3+1,none⟩=some (Sb (is.getD i Jh).tl)/\w.cell? ⟨b,off+i*3+2,none⟩=some (Sb (is.getD i Jh).ar))):=by
 rcases h with h|⟨b,off,h⟩
 ·exact⟨0,0,.inl h⟩
 exact⟨b,off,.inr h⟩
theorem y9{is:List G3}(h:R_ w a is)(c:Bw w w'):R_ w' a is:=by
 rcases h with h|⟨b,off,h1,h2,e⟩
 ·exact .inl h
 exact .inr ⟨b,off,h1,P9 h2 c.size,λi d=>by rw[c.cell (by exact h2),c.cell (by exact h2),c.cell (by exact h2)];exact e i d⟩
theorem Vs(u:World)(B j:Nat)(a v1 v2 x0 x1 x2:Value)(h0:u.cell? ⟨B,j,none⟩=some x0)(h1:u.cell? ⟨B,j+1,none⟩=some x1)(h2:u.cell? ⟨B,j+2,none⟩=some x2):
 (((u.setCell ⟨B,j,none⟩ a).setCell ⟨B,j+1,none⟩ v1).setCell ⟨B,j+2,none⟩ v2).cell? ⟨B,j,none⟩=some a/\(((u.setCell ⟨B,j,none⟩ a).setCell ⟨B,j+1,none⟩ v1).setCell ⟨B,j+2,none⟩ v2).cell? ⟨B,j+1,none⟩=some v1/\(((u.setCell ⟨B,j,none⟩ a).setCell ⟨B,j+1,none⟩ v1).setCell ⟨B,j+2,none⟩ v2).cell? ⟨B,j+2,none⟩=some v2:=by
 have a1:(u.setCell ⟨B,j,none⟩ a).cell? ⟨B,j+1,none⟩=some x1:=by rw[Nb _ _ _ _ (Le O0)];exact h1
 have a2:((u.setCell ⟨B,j,none⟩ a).setCell ⟨B,j+1,none⟩ v1).cell? ⟨B,j+2,none⟩=some x2:=by
  rw[Nb _ _ _ _ (Le O0),Nb _ _ _ _ (Le O0)];exact h2
 refine⟨?_,?_,Jg _ _ _ a2⟩
 ·rw[Nb _ _ _ _ (Le O0),Nb _ _ _ _ (Le O0)];exact Jg _ _ _ h0
 rw[Nb _ _ _ _ (Le O0)];exact Jg _ _ _ a1
theorem a4X(x:G3)(w:World):
 Calls prog 250 #[.agg #[.bool x.nm,Sb x.tl,Sb x.ar],.agg #[.bool x.nm,Sb x.tl,Sb x.ar]] w λe w'=>e=.returned (.bool true)/\Bw w w':=by
 go_in
 go_wp2;go_ret;exact⟨rfl,U6.alloc J4 _⟩
theorem c194(a o:OA)(cap r:Nat)(is:List G3)(w:World)(hl:is.length<=1048576)(n:R_ w a is)(m:R_ w o is):
 Calls prog 194 #[Sa a is.length cap,Sa o is.length r] w λe w'=>e=.returned (.bool true)/\Bw w w':=by
 obtain⟨b,off,hc⟩:=Ji n;have t:=U0 hc;clear hc n;obtain⟨b',off',l⟩:=Ji m;have s:=U0 l;clear l m
 go_in
 go_wp2;go_loopw[5] (λi wr=>∃(k:Nat),k<=is.length/\i=Sc Se k/\Below w.heap.size w wr) (λi _=>is.length-(RowKit.intOf i).toNat);exact⟨0,Y4 _,rfl,O4 _ _⟩;obtain⟨k,hk,rfl,c⟩:=hrel;by_cases d:k<is.length
 ·obtain⟨ha,j,g⟩:=Ud t.o d;obtain⟨q,h,f⟩:=Ud s.o d;subst ha;subst q;have g0:=(c.cell (by exact j)).trans (g k d).1;have g1:=(c.cell (by exact j)).trans (g k d).2.1;have g2:=(c.cell (by exact j)).trans (g k d).2.2;have g0':=(c.cell (by exact h)).trans (f k d).1;have g1':=(c.cell (by exact h)).trans (f k d).2.1;have g2':=(c.cell (by exact h)).trans (f k d).2.2;generalize is.getD k Jh=x at*;clear g f
  go_wp2_with fail
  go_region_with(go_at_call 250;refine(a4X x _).mono ?_;rintro e w1⟨rfl,p⟩)
  all_goals go_wp2
  all_goals go_roundw
  all_goals first
   | exact⟨k+1,O0,by go_num,(c.drew).trans (p.mono c.size)⟩
   | (exact V9)
 go_wp2;go_ret;exact⟨rfl,c⟩
structure R3 where
 key:BY
 gs:List G3
 o:BY
def d_:R3:=⟨⟨#[]⟩,[],⟨#[]⟩⟩
def R3.le(x:R3)(B:Nat):Prop:=x.key.size<=B/\x.gs.length<=B/\(∀i,(x.gs.getD i Jh).le B)/\x.o.size<=B
def KD(w:World)(b o:Nat)(x:R3):Prop:=∃ai ci,w.cell? ⟨b,o,none⟩=some (Sb x.key)/\w.cell? ⟨b,o+1,none⟩=some (Sa ai x.gs.length ci)/\w.cell? ⟨b,o+2,none⟩=some (Sb x.o)/\R_ w ai x.gs
def ug(w:World)(a:OA)(is:List R3):Prop:=is=[]\/∃b off,a=some ⟨b,off,none⟩/\b<w.heap.size/\∀i,i<is.length->KD w b (off+i*3) (is.getD i d_)
theorem KD.below{b o:Nat}{x:R3}(h:KD w b o x)(c:b<w.heap.size)(a:Bw w w'):KD w' b o x:=by
 obtain⟨f,e,h0,h1,h2,d⟩:=h;exact⟨f,e,(a.cell (by exact c)).trans h0,(a.cell (by exact c)).trans h1,(a.cell (by exact c)).trans h2,y9 d a⟩
theorem Hf{is:List R3}(h:ug w a is):∃b off,(is=[]\/(a=some ⟨b,off,none⟩/\b<w.heap.size/\∀i,i<is.length->KD w b (off+i*3) (is.getD i d_))):=by
 rcases h with h|⟨b,off,h⟩
 ·exact⟨0,0,.inl h⟩
 exact⟨b,off,.inr h⟩
theorem Ai{is:List R3}(h:ug w a is)(c:Bw w w'):ug w' a is:=by
 rcases h with h|⟨b,off,h1,h2,e⟩
 ·exact .inl h
 exact .inr ⟨b,off,h1,P9 h2 c.size,λi d=>(e i d).below h2 c⟩
def WB(is:List R3):Nat:=(is.map λx=>x.gs.length).sum
theorem YO{is:List R3}{k:Nat}(h:k<is.length):WB (is.take (k+1))=WB (is.take k)+(is.getD k d_).gs.length:=by
 unfold WB;rw[Oq,Nl,List.sum_append];simp[List.getD,V8 h]
theorem c141(x:R3)(b a:OA)(g f:Nat)(w:World)(hl:x.gs.length<=1048576)(i:R_ w b x.gs)(h:R_ w a x.gs):
 Calls prog 141 #[.agg #[Sb x.key,Sa b x.gs.length g,Sb x.o],.agg #[Sb x.key,Sa a x.gs.length f,Sb x.o]] w λe w'=>e=.returned (.bool true)/\Bw w w':=by
 have d:Bw w ((w.alloc (.cells #[vS x.key,vL b x.gs.length g,vS x.o] 179)).alloc (.cells #[vS x.key,vL a x.gs.length f,vS x.o] 179)):=U6.alloc J4 _;have j:=c194 b a g f x.gs _ hl (y9 i d) (y9 h d)
 go_in
 go_wp2_with fail
 refine j.mono ?_;rintro e w1⟨rfl,c⟩;have k:=d.trans (c.mono L8);have g2:w1.cell? (aW w 2)=some (vS x.o):=by rw[c.cell L8];simp[go_sem]
 have g3:w1.cell? (aA (w.heap.size+1) 2)=some (vS x.o):=by rw[c.cell J4];simp[go_sem]
 clear j i h;go_wp2;go_ret;exact⟨rfl,k⟩
structure St where
 wd:Int
 ts:LB
 rs:List R3
def St.le(s:St)(B:Nat):Prop:=(s.ts.length<=B/\∀i,(s.ts.getD i ByteArray.empty).size<=B)/\s.rs.length<=B/\∀i,(s.rs.getD i d_).le B
def xh(w:World)(ta ra:OA)(s:St):Prop:=J8 w ta s.ts/\ug w ra s.rs
theorem xh.below{ta ra:OA}{s:St}(h:xh w ta ra s)(a:Bw w w'):xh w' ta ra s:=⟨G6 h.1 a,Ai h.2 a⟩
structure M3 where
 nm:BY
 tl:BY
 ar:BY
def J_:M3:=⟨⟨#[]⟩,⟨#[]⟩,⟨#[]⟩⟩
def M3.v(x:M3):Value:=.agg #[Sb x.nm,Sb x.tl,Sb x.ar]
def M3.le(x:M3)(B:Nat):Prop:=x.nm.size<=B/\x.tl.size<=B/\x.ar.size<=B
def U_(c:UInt8):Bool:=decide (32<=(c.toNat:Int))&&decide ((c.toNat:Int)<=126)&&!((c.toNat:Int)==34)&&!((c.toNat:Int)==92)
theorem Ov{a b:BY}(h:a=b):Ending.returned (Sb a)=.returned (Sb b):=by rw[h]
def hexL:List UInt8:=[48,49,50,51,52,53,54,55,56,57,97,98,99,100,101,102]
def dI:BY:=⟨#[48,49,50,51,52,53,54,55,56,57,97,98,99,100,101,102]⟩
theorem dL(n:Nat)(h:n<dI.size):dI[n]=hexL.getD n 0:=by
 have h':n<16:=h;obtain rfl|rfl|rfl|rfl|rfl|rfl|rfl|rfl|rfl|rfl|rfl|rfl|rfl|rfl|rfl|rfl:n=0\/n=1\/n=2\/n=3\/n=4\/n=5\/n=6\/n=7\/n=8\/n=9\/n=10\/n=11\/n=12\/n=13\/n=14\/n=15:=O0
 all_goals rfl
def qb(c:UInt8):List UInt8:=if U_ c=true then [c] else [92,hexL.getD (c.toNat / 16) 0,hexL.getD (c.toNat % 16) 0]
def Z5(l:List UInt8):List UInt8:=34::(l.flatMap qb++[34])
theorem a1k(c:UInt8):(qb c).length<=3:=by unfold qb;split<;>simp
theorem Dv(l:List UInt8):(l.flatMap qb).length<=3*l.length:=by
 induction l with
 | nil=>simp
 | cons c l ih=>have:=a1k c;simp only[Xf,Q9,f_];omega
theorem Na(l r:List UInt8):Lib.byteCells (l++r)=Lib.byteCells l++Lib.byteCells r:=by simp[Lib.byteCells]
theorem Sr(l:List UInt8):(Lib.byteCells l).length=l.length:=by simp[Lib.byteCells]
