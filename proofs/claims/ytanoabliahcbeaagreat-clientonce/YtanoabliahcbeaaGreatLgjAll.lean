import Derived.Test.YtanoabliahcbeaaGreatLefAll
import Derived.Test.YtanoabliahcbeaaGreatLacAll
set_option maxHeartbeats 16000000
set_option maxRecDepth 100000
namespace Go.Proofs.YtanoabliahcbeaaGreat.Wn
open Go.RowKit Disk Table
open _root_.Go.Proofs.YtanoabliahcbeaaGreat.Calls _root_.Go.Proofs.YtanoabliahcbeaaGreat.Command
variable {Q F:Nat->Prop} {w w':World} {b:Nat} {oa wo:Option Addr} {wc:Nat} {s:CS}
def cL:Code->Code | .seq a _=>a | c=>c
def cR:Code->Code | .seq _ b=>b | c=>c
def cB:Code->Code | .block _ c=>c | c=>c
def cW:Code->Code | .loop c=>c | c=>c
noncomputable def b4:Code:=Tryz.f4.body.getD .skip
noncomputable def rnd4:Code:=cW (cB (cR (cL (cR (cR (cR (cR (cR (cR (cR b4))))))))))
noncomputable def bd4:Code:=cB (cL (cR rnd4))
noncomputable def rest4:Code:=cR (cR (cR (cR (cR (cR bd4)))))
noncomputable def sw4:Code:=cL rest4
noncomputable def lb4:Code:=cL (cR rest4)
noncomputable def tk4:Code:=cR (cR rest4)
theorem rnd4_eq:rnd4=.seq (cL rnd4) (.seq (.block 1 bd4) (cR (cR rnd4))):=rfl
theorem bd4_eq:bd4=.seq (cL bd4) (.seq (cL (cR bd4)) (.seq (cL (cR (cR bd4))) (.seq (cL (cR (cR (cR bd4)))) (.seq (cL (cR (cR (cR (cR bd4))))) (.seq (cL (cR (cR (cR (cR (cR bd4)))))) rest4))))):=rfl
theorem rest4_eq:rest4=.seq sw4 (.seq lb4 tk4):=rfl
def sl (t:Array Value)(k:Nat):Value:=t.getD k undef
theorem t259 (t:Array Value)(h:t.size=259):t=#[sl t 0,sl t 1,sl t 2,sl t 3,sl t 4,sl t 5,sl t 6,sl t 7,sl t 8,sl t 9,sl t 10,sl t 11,sl t 12,sl t 13,sl t 14,sl t 15,sl t 16,sl t 17,sl t 18,sl t 19,sl t 20,sl t 21,sl t 22,sl t 23,sl t 24,sl t 25,sl t 26,sl t 27,sl t 28,sl t 29,sl t 30,sl t 31,sl t 32,sl t 33,sl t 34,sl t 35,sl t 36,sl t 37,sl t 38,sl t 39,sl t 40,sl t 41,sl t 42,sl t 43,sl t 44,sl t 45,sl t 46,sl t 47,sl t 48,sl t 49,sl t 50,sl t 51,sl t 52,sl t 53,sl t 54,sl t 55,sl t 56,sl t 57,sl t 58,sl t 59,sl t 60,sl t 61,sl t 62,sl t 63,sl t 64,sl t 65,sl t 66,sl t 67,sl t 68,sl t 69,sl t 70,sl t 71,sl t 72,sl t 73,sl t 74,sl t 75,sl t 76,sl t 77,sl t 78,sl t 79,sl t 80,sl t 81,sl t 82,sl t 83,sl t 84,sl t 85,sl t 86,sl t 87,sl t 88,sl t 89,sl t 90,sl t 91,sl t 92,sl t 93,sl t 94,sl t 95,sl t 96,sl t 97,sl t 98,sl t 99,sl t 100,sl t 101,sl t 102,sl t 103,sl t 104,sl t 105,sl t 106,sl t 107,sl t 108,sl t 109,sl t 110,sl t 111,sl t 112,sl t 113,sl t 114,sl t 115,sl t 116,sl t 117,sl t 118,sl t 119,sl t 120,sl t 121,sl t 122,sl t 123,sl t 124,sl t 125,sl t 126,sl t 127,sl t 128,sl t 129,sl t 130,sl t 131,sl t 132,sl t 133,sl t 134,sl t 135,sl t 136,sl t 137,sl t 138,sl t 139,sl t 140,sl t 141,sl t 142,sl t 143,sl t 144,sl t 145,sl t 146,sl t 147,sl t 148,sl t 149,sl t 150,sl t 151,sl t 152,sl t 153,sl t 154,sl t 155,sl t 156,sl t 157,sl t 158,sl t 159,sl t 160,sl t 161,sl t 162,sl t 163,sl t 164,sl t 165,sl t 166,sl t 167,sl t 168,sl t 169,sl t 170,sl t 171,sl t 172,sl t 173,sl t 174,sl t 175,sl t 176,sl t 177,sl t 178,sl t 179,sl t 180,sl t 181,sl t 182,sl t 183,sl t 184,sl t 185,sl t 186,sl t 187,sl t 188,sl t 189,sl t 190,sl t 191,sl t 192,sl t 193,sl t 194,sl t 195,sl t 196,sl t 197,sl t 198,sl t 199,sl t 200,sl t 201,sl t 202,sl t 203,sl t 204,sl t 205,sl t 206,sl t 207,sl t 208,sl t 209,sl t 210,sl t 211,sl t 212,sl t 213,sl t 214,sl t 215,sl t 216,sl t 217,sl t 218,sl t 219,sl t 220,sl t 221,sl t 222,sl t 223,sl t 224,sl t 225,sl t 226,sl t 227,sl t 228,sl t 229,sl t 230,sl t 231,sl t 232,sl t 233,sl t 234,sl t 235,sl t 236,sl t 237,sl t 238,sl t 239,sl t 240,sl t 241,sl t 242,sl t 243,sl t 244,sl t 245,sl t 246,sl t 247,sl t 248,sl t 249,sl t 250,sl t 251,sl t 252,sl t 253,sl t 254,sl t 255,sl t 256,sl t 257,sl t 258]:=by
 have h1:t.toList=(List.range 259).map (sl t):=by
  apply List.ext_getElem
  ·simp [h]
  ·intro i h1 h2
   simp [sl] at h1 ⊢
   rw [Array.getElem?_eq_getElem h1]
   rfl
 have h2:(List.range 259).map (sl t)=[sl t 0,sl t 1,sl t 2,sl t 3,sl t 4,sl t 5,sl t 6,sl t 7,sl t 8,sl t 9,sl t 10,sl t 11,sl t 12,sl t 13,sl t 14,sl t 15,sl t 16,sl t 17,sl t 18,sl t 19,sl t 20,sl t 21,sl t 22,sl t 23,sl t 24,sl t 25,sl t 26,sl t 27,sl t 28,sl t 29,sl t 30,sl t 31,sl t 32,sl t 33,sl t 34,sl t 35,sl t 36,sl t 37,sl t 38,sl t 39,sl t 40,sl t 41,sl t 42,sl t 43,sl t 44,sl t 45,sl t 46,sl t 47,sl t 48,sl t 49,sl t 50,sl t 51,sl t 52,sl t 53,sl t 54,sl t 55,sl t 56,sl t 57,sl t 58,sl t 59,sl t 60,sl t 61,sl t 62,sl t 63,sl t 64,sl t 65,sl t 66,sl t 67,sl t 68,sl t 69,sl t 70,sl t 71,sl t 72,sl t 73,sl t 74,sl t 75,sl t 76,sl t 77,sl t 78,sl t 79,sl t 80,sl t 81,sl t 82,sl t 83,sl t 84,sl t 85,sl t 86,sl t 87,sl t 88,sl t 89,sl t 90,sl t 91,sl t 92,sl t 93,sl t 94,sl t 95,sl t 96,sl t 97,sl t 98,sl t 99,sl t 100,sl t 101,sl t 102,sl t 103,sl t 104,sl t 105,sl t 106,sl t 107,sl t 108,sl t 109,sl t 110,sl t 111,sl t 112,sl t 113,sl t 114,sl t 115,sl t 116,sl t 117,sl t 118,sl t 119,sl t 120,sl t 121,sl t 122,sl t 123,sl t 124,sl t 125,sl t 126,sl t 127,sl t 128,sl t 129,sl t 130,sl t 131,sl t 132,sl t 133,sl t 134,sl t 135,sl t 136,sl t 137,sl t 138,sl t 139,sl t 140,sl t 141,sl t 142,sl t 143,sl t 144,sl t 145,sl t 146,sl t 147,sl t 148,sl t 149,sl t 150,sl t 151,sl t 152,sl t 153,sl t 154,sl t 155,sl t 156,sl t 157,sl t 158,sl t 159,sl t 160,sl t 161,sl t 162,sl t 163,sl t 164,sl t 165,sl t 166,sl t 167,sl t 168,sl t 169,sl t 170,sl t 171,sl t 172,sl t 173,sl t 174,sl t 175,sl t 176,sl t 177,sl t 178,sl t 179,sl t 180,sl t 181,sl t 182,sl t 183,sl t 184,sl t 185,sl t 186,sl t 187,sl t 188,sl t 189,sl t 190,sl t 191,sl t 192,sl t 193,sl t 194,sl t 195,sl t 196,sl t 197,sl t 198,sl t 199,sl t 200,sl t 201,sl t 202,sl t 203,sl t 204,sl t 205,sl t 206,sl t 207,sl t 208,sl t 209,sl t 210,sl t 211,sl t 212,sl t 213,sl t 214,sl t 215,sl t 216,sl t 217,sl t 218,sl t 219,sl t 220,sl t 221,sl t 222,sl t 223,sl t 224,sl t 225,sl t 226,sl t 227,sl t 228,sl t 229,sl t 230,sl t 231,sl t 232,sl t 233,sl t 234,sl t 235,sl t 236,sl t 237,sl t 238,sl t 239,sl t 240,sl t 241,sl t 242,sl t 243,sl t 244,sl t 245,sl t 246,sl t 247,sl t 248,sl t 249,sl t 250,sl t 251,sl t 252,sl t 253,sl t 254,sl t 255,sl t 256,sl t 257,sl t 258]:=rfl
 rw [h2] at h1
 exact Array.toList_inj.1 h1
structure S4 (a:Act)(v1 v5 v7 v8 v9 v10 v11 v12:Value):Prop where
 size:a.tmps.size=259
 defers:a.defers=[]
 e1:sl a.tmps 1=v1
 e5:sl a.tmps 5=v5
 e7:sl a.tmps 7=v7
 e8:sl a.tmps 8=v8
 e9:sl a.tmps 9=v9
 e10:sl a.tmps 10=v10
 e11:sl a.tmps 11=v11
 e12:sl a.tmps 12=v12
theorem S4.eq {a:Act}{v1 v5 v7 v8 v9 v10 v11 v12:Value}(h:S4 a v1 v5 v7 v8 v9 v10 v11 v12):∃t:Array Value,a={ tmps:=#[sl t 0,v1,sl t 2,sl t 3,sl t 4,v5,sl t 6,v7,v8,v9,v10,v11,v12,sl t 13,sl t 14,sl t 15,sl t 16,sl t 17,sl t 18,sl t 19,sl t 20,sl t 21,sl t 22,sl t 23,sl t 24,sl t 25,sl t 26,sl t 27,sl t 28,sl t 29,sl t 30,sl t 31,sl t 32,sl t 33,sl t 34,sl t 35,sl t 36,sl t 37,sl t 38,sl t 39,sl t 40,sl t 41,sl t 42,sl t 43,sl t 44,sl t 45,sl t 46,sl t 47,sl t 48,sl t 49,sl t 50,sl t 51,sl t 52,sl t 53,sl t 54,sl t 55,sl t 56,sl t 57,sl t 58,sl t 59,sl t 60,sl t 61,sl t 62,sl t 63,sl t 64,sl t 65,sl t 66,sl t 67,sl t 68,sl t 69,sl t 70,sl t 71,sl t 72,sl t 73,sl t 74,sl t 75,sl t 76,sl t 77,sl t 78,sl t 79,sl t 80,sl t 81,sl t 82,sl t 83,sl t 84,sl t 85,sl t 86,sl t 87,sl t 88,sl t 89,sl t 90,sl t 91,sl t 92,sl t 93,sl t 94,sl t 95,sl t 96,sl t 97,sl t 98,sl t 99,sl t 100,sl t 101,sl t 102,sl t 103,sl t 104,sl t 105,sl t 106,sl t 107,sl t 108,sl t 109,sl t 110,sl t 111,sl t 112,sl t 113,sl t 114,sl t 115,sl t 116,sl t 117,sl t 118,sl t 119,sl t 120,sl t 121,sl t 122,sl t 123,sl t 124,sl t 125,sl t 126,sl t 127,sl t 128,sl t 129,sl t 130,sl t 131,sl t 132,sl t 133,sl t 134,sl t 135,sl t 136,sl t 137,sl t 138,sl t 139,sl t 140,sl t 141,sl t 142,sl t 143,sl t 144,sl t 145,sl t 146,sl t 147,sl t 148,sl t 149,sl t 150,sl t 151,sl t 152,sl t 153,sl t 154,sl t 155,sl t 156,sl t 157,sl t 158,sl t 159,sl t 160,sl t 161,sl t 162,sl t 163,sl t 164,sl t 165,sl t 166,sl t 167,sl t 168,sl t 169,sl t 170,sl t 171,sl t 172,sl t 173,sl t 174,sl t 175,sl t 176,sl t 177,sl t 178,sl t 179,sl t 180,sl t 181,sl t 182,sl t 183,sl t 184,sl t 185,sl t 186,sl t 187,sl t 188,sl t 189,sl t 190,sl t 191,sl t 192,sl t 193,sl t 194,sl t 195,sl t 196,sl t 197,sl t 198,sl t 199,sl t 200,sl t 201,sl t 202,sl t 203,sl t 204,sl t 205,sl t 206,sl t 207,sl t 208,sl t 209,sl t 210,sl t 211,sl t 212,sl t 213,sl t 214,sl t 215,sl t 216,sl t 217,sl t 218,sl t 219,sl t 220,sl t 221,sl t 222,sl t 223,sl t 224,sl t 225,sl t 226,sl t 227,sl t 228,sl t 229,sl t 230,sl t 231,sl t 232,sl t 233,sl t 234,sl t 235,sl t 236,sl t 237,sl t 238,sl t 239,sl t 240,sl t 241,sl t 242,sl t 243,sl t 244,sl t 245,sl t 246,sl t 247,sl t 248,sl t 249,sl t 250,sl t 251,sl t 252,sl t 253,sl t 254,sl t 255,sl t 256,sl t 257,sl t 258],defers:=[] }:=by
 obtain ⟨t,d⟩:=a
 obtain ⟨h1,h2,h3,h4,h5,h6,h7,h8,h9,h10⟩:=h
 dsimp only at h1 h2 h3 h4 h5 h6 h7 h8 h9 h10
 refine ⟨t,?_⟩
 rw [h2]
 have e:=t259 t h1
 rw [h3,h4,h5,h6,h7,h8,h9,h10] at e
 exact congrArg (fun x=>Act.mk x []) e
structure T4 (a:Act)(v1 v5 v7 v8 v9 v10 v11 v12 v13 v14 v15 v16 v17:Value):Prop where
 size:a.tmps.size=259
 defers:a.defers=[]
 e1:sl a.tmps 1=v1
 e5:sl a.tmps 5=v5
 e7:sl a.tmps 7=v7
 e8:sl a.tmps 8=v8
 e9:sl a.tmps 9=v9
 e10:sl a.tmps 10=v10
 e11:sl a.tmps 11=v11
 e12:sl a.tmps 12=v12
 e13:sl a.tmps 13=v13
 e14:sl a.tmps 14=v14
 e15:sl a.tmps 15=v15
 e16:sl a.tmps 16=v16
 e17:sl a.tmps 17=v17
theorem T4.eq {a:Act}{v1 v5 v7 v8 v9 v10 v11 v12 v13 v14 v15 v16 v17:Value}(h:T4 a v1 v5 v7 v8 v9 v10 v11 v12 v13 v14 v15 v16 v17):∃t:Array Value,a={ tmps:=#[sl t 0,v1,sl t 2,sl t 3,sl t 4,v5,sl t 6,v7,v8,v9,v10,v11,v12,v13,v14,v15,v16,v17,sl t 18,sl t 19,sl t 20,sl t 21,sl t 22,sl t 23,sl t 24,sl t 25,sl t 26,sl t 27,sl t 28,sl t 29,sl t 30,sl t 31,sl t 32,sl t 33,sl t 34,sl t 35,sl t 36,sl t 37,sl t 38,sl t 39,sl t 40,sl t 41,sl t 42,sl t 43,sl t 44,sl t 45,sl t 46,sl t 47,sl t 48,sl t 49,sl t 50,sl t 51,sl t 52,sl t 53,sl t 54,sl t 55,sl t 56,sl t 57,sl t 58,sl t 59,sl t 60,sl t 61,sl t 62,sl t 63,sl t 64,sl t 65,sl t 66,sl t 67,sl t 68,sl t 69,sl t 70,sl t 71,sl t 72,sl t 73,sl t 74,sl t 75,sl t 76,sl t 77,sl t 78,sl t 79,sl t 80,sl t 81,sl t 82,sl t 83,sl t 84,sl t 85,sl t 86,sl t 87,sl t 88,sl t 89,sl t 90,sl t 91,sl t 92,sl t 93,sl t 94,sl t 95,sl t 96,sl t 97,sl t 98,sl t 99,sl t 100,sl t 101,sl t 102,sl t 103,sl t 104,sl t 105,sl t 106,sl t 107,sl t 108,sl t 109,sl t 110,sl t 111,sl t 112,sl t 113,sl t 114,sl t 115,sl t 116,sl t 117,sl t 118,sl t 119,sl t 120,sl t 121,sl t 122,sl t 123,sl t 124,sl t 125,sl t 126,sl t 127,sl t 128,sl t 129,sl t 130,sl t 131,sl t 132,sl t 133,sl t 134,sl t 135,sl t 136,sl t 137,sl t 138,sl t 139,sl t 140,sl t 141,sl t 142,sl t 143,sl t 144,sl t 145,sl t 146,sl t 147,sl t 148,sl t 149,sl t 150,sl t 151,sl t 152,sl t 153,sl t 154,sl t 155,sl t 156,sl t 157,sl t 158,sl t 159,sl t 160,sl t 161,sl t 162,sl t 163,sl t 164,sl t 165,sl t 166,sl t 167,sl t 168,sl t 169,sl t 170,sl t 171,sl t 172,sl t 173,sl t 174,sl t 175,sl t 176,sl t 177,sl t 178,sl t 179,sl t 180,sl t 181,sl t 182,sl t 183,sl t 184,sl t 185,sl t 186,sl t 187,sl t 188,sl t 189,sl t 190,sl t 191,sl t 192,sl t 193,sl t 194,sl t 195,sl t 196,sl t 197,sl t 198,sl t 199,sl t 200,sl t 201,sl t 202,sl t 203,sl t 204,sl t 205,sl t 206,sl t 207,sl t 208,sl t 209,sl t 210,sl t 211,sl t 212,sl t 213,sl t 214,sl t 215,sl t 216,sl t 217,sl t 218,sl t 219,sl t 220,sl t 221,sl t 222,sl t 223,sl t 224,sl t 225,sl t 226,sl t 227,sl t 228,sl t 229,sl t 230,sl t 231,sl t 232,sl t 233,sl t 234,sl t 235,sl t 236,sl t 237,sl t 238,sl t 239,sl t 240,sl t 241,sl t 242,sl t 243,sl t 244,sl t 245,sl t 246,sl t 247,sl t 248,sl t 249,sl t 250,sl t 251,sl t 252,sl t 253,sl t 254,sl t 255,sl t 256,sl t 257,sl t 258],defers:=[] }:=by
 obtain ⟨t,d⟩:=a
 obtain ⟨h1,h2,h3,h4,h5,h6,h7,h8,h9,h10,h11,h12,h13,h14,h15⟩:=h
 dsimp only at h1 h2 h3 h4 h5 h6 h7 h8 h9 h10 h11 h12 h13 h14 h15
 refine ⟨t,?_⟩
 rw [h2]
 have e:=t259 t h1
 rw [h3,h4,h5,h6,h7,h8,h9,h10,h11,h12,h13,h14,h15] at e
 exact congrArg (fun x=>Act.mk x []) e
structure U4 (a:Act)(v1 v5 v7 v8 v9 v10 v11 v12 v17:Value):Prop where
 size:a.tmps.size=259
 defers:a.defers=[]
 e1:sl a.tmps 1=v1
 e5:sl a.tmps 5=v5
 e7:sl a.tmps 7=v7
 e8:sl a.tmps 8=v8
 e9:sl a.tmps 9=v9
 e10:sl a.tmps 10=v10
 e11:sl a.tmps 11=v11
 e12:sl a.tmps 12=v12
 e17:sl a.tmps 17=v17
theorem U4.eq {a:Act}{v1 v5 v7 v8 v9 v10 v11 v12 v17:Value}(h:U4 a v1 v5 v7 v8 v9 v10 v11 v12 v17):∃t:Array Value,a={ tmps:=#[sl t 0,v1,sl t 2,sl t 3,sl t 4,v5,sl t 6,v7,v8,v9,v10,v11,v12,sl t 13,sl t 14,sl t 15,sl t 16,v17,sl t 18,sl t 19,sl t 20,sl t 21,sl t 22,sl t 23,sl t 24,sl t 25,sl t 26,sl t 27,sl t 28,sl t 29,sl t 30,sl t 31,sl t 32,sl t 33,sl t 34,sl t 35,sl t 36,sl t 37,sl t 38,sl t 39,sl t 40,sl t 41,sl t 42,sl t 43,sl t 44,sl t 45,sl t 46,sl t 47,sl t 48,sl t 49,sl t 50,sl t 51,sl t 52,sl t 53,sl t 54,sl t 55,sl t 56,sl t 57,sl t 58,sl t 59,sl t 60,sl t 61,sl t 62,sl t 63,sl t 64,sl t 65,sl t 66,sl t 67,sl t 68,sl t 69,sl t 70,sl t 71,sl t 72,sl t 73,sl t 74,sl t 75,sl t 76,sl t 77,sl t 78,sl t 79,sl t 80,sl t 81,sl t 82,sl t 83,sl t 84,sl t 85,sl t 86,sl t 87,sl t 88,sl t 89,sl t 90,sl t 91,sl t 92,sl t 93,sl t 94,sl t 95,sl t 96,sl t 97,sl t 98,sl t 99,sl t 100,sl t 101,sl t 102,sl t 103,sl t 104,sl t 105,sl t 106,sl t 107,sl t 108,sl t 109,sl t 110,sl t 111,sl t 112,sl t 113,sl t 114,sl t 115,sl t 116,sl t 117,sl t 118,sl t 119,sl t 120,sl t 121,sl t 122,sl t 123,sl t 124,sl t 125,sl t 126,sl t 127,sl t 128,sl t 129,sl t 130,sl t 131,sl t 132,sl t 133,sl t 134,sl t 135,sl t 136,sl t 137,sl t 138,sl t 139,sl t 140,sl t 141,sl t 142,sl t 143,sl t 144,sl t 145,sl t 146,sl t 147,sl t 148,sl t 149,sl t 150,sl t 151,sl t 152,sl t 153,sl t 154,sl t 155,sl t 156,sl t 157,sl t 158,sl t 159,sl t 160,sl t 161,sl t 162,sl t 163,sl t 164,sl t 165,sl t 166,sl t 167,sl t 168,sl t 169,sl t 170,sl t 171,sl t 172,sl t 173,sl t 174,sl t 175,sl t 176,sl t 177,sl t 178,sl t 179,sl t 180,sl t 181,sl t 182,sl t 183,sl t 184,sl t 185,sl t 186,sl t 187,sl t 188,sl t 189,sl t 190,sl t 191,sl t 192,sl t 193,sl t 194,sl t 195,sl t 196,sl t 197,sl t 198,sl t 199,sl t 200,sl t 201,sl t 202,sl t 203,sl t 204,sl t 205,sl t 206,sl t 207,sl t 208,sl t 209,sl t 210,sl t 211,sl t 212,sl t 213,sl t 214,sl t 215,sl t 216,sl t 217,sl t 218,sl t 219,sl t 220,sl t 221,sl t 222,sl t 223,sl t 224,sl t 225,sl t 226,sl t 227,sl t 228,sl t 229,sl t 230,sl t 231,sl t 232,sl t 233,sl t 234,sl t 235,sl t 236,sl t 237,sl t 238,sl t 239,sl t 240,sl t 241,sl t 242,sl t 243,sl t 244,sl t 245,sl t 246,sl t 247,sl t 248,sl t 249,sl t 250,sl t 251,sl t 252,sl t 253,sl t 254,sl t 255,sl t 256,sl t 257,sl t 258],defers:=[] }:=by
 obtain ⟨t,d⟩:=a
 obtain ⟨h1,h2,h3,h4,h5,h6,h7,h8,h9,h10,h11⟩:=h
 dsimp only at h1 h2 h3 h4 h5 h6 h7 h8 h9 h10 h11
 refine ⟨t,?_⟩
 rw [h2]
 have e:=t259 t h1
 rw [h3,h4,h5,h6,h7,h8,h9,h10,h11] at e
 exact congrArg (fun x=>Act.mk x []) e
def At4 (P:Act->World->Prop):Exit->Act->World->Prop
 | .normal,a,w=>P a w
 | _,_,_=>False
def KB (A:World)(i:Nat):Prop:=∃t c,Blk A i t c/\KT t
def Keep (A A':World):Prop:=Fr A A' (KB A)
theorem kb_gt (A:World):Gt A (KB A):=fun i ⟨t,c,hb,hk⟩=>⟨t,c,hb,by rcases hk with rfl | rfl | rfl | rfl <;> decide,by rcases hk with rfl | rfl | rfl | rfl <;> decide⟩
theorem keep_grown {A A':World}(hg:A.grownBy A' none):Keep A A':=Fr.of hg (by simp)
theorem keep_trans {A B C:World}(h:Keep A B)(k:Keep B C):Keep A C:=by
 refine Fr.trans h k fun i hi=>?_
 obtain ⟨t,c,hb,hk⟩:=hi
 rcases Nat.lt_or_ge i A.heap.size with hlt | hge
 ·by_cases e:KB A i
  ·exact .inl e
  ·exact .inl ⟨t,c,(h.block i hlt e).symm.trans hb,hk⟩
 ·exact .inr hge
theorem Run.keep {A A':World}{s':CS}(h:Run Q F w A b oa wo wc s)(hs:Stp Q F A b s' A'):Keep A A':=(h.fr hs).mono fun i hi=>h.cm.ft i hi
theorem keep_row {A A':World}{B:Nat}{v:Value}{xs:List Value}(hk:Keep A A')(h:Row 2 A B v xs):Row 2 A' B v xs:=h.same fun k hk'=>by
 obtain ⟨C,hC⟩:=h.blk k hk'
 exact hk.block k hC.lt fun ⟨t',c',hb',hkt⟩=>by
  have:=blk_type hb' hC
  subst this
  unfold KT at hkt
  omega
theorem keep_msgs {A A':World}{B:Nat}{v:Value}{l:List PMsg}(hk:Keep A A')(h:MsgsOwn A B v l):MsgsOwn A' B v l:=by
 refine msgsOwn_fr h hk (kb_gt A) fun k hk' ⟨t,c,hb,hkt⟩=>?_
 obtain ⟨⟨vs,h1,_⟩,_⟩:=h
 obtain ⟨C,hC⟩:=owns_blk h1 hk'
 have:=blk_type hb hC
 subst this
 unfold KT at hkt
 omega
theorem Runs.grown {A A':World}(h:Runs w A b s)(hg:A.grownBy A' none):Runs w A' b s:=by
 obtain ⟨Q,F,oa,wo,wc,h⟩:=h
 exact ⟨Q,F,oa,wo,wc,h.grown hg⟩
theorem Runs.ok {A:World}(h:Runs w A b s):Okc s:=by
 obtain ⟨Q,F,oa,wo,wc,h⟩:=h
 exact h.cm.ok
theorem Runs.gr {A:World}(h:Runs w A b s):w.grownBy A none:=by
 obtain ⟨Q,F,oa,wo,wc,h⟩:=h
 exact h.gr
theorem Runs.room {A:World}(h:Runs w A b s):RoomS s:=by
 obtain ⟨Q,F,oa,wo,wc,h⟩:=h
 unfold RoomS
 by_cases h0:s.ses=0
 ·rw [(h.cm.nowin h0).2]
  simp
 ·obtain ⟨_,ob,v,_,hw,_⟩:=h.cm.yeswin h0
  exact hw.room
theorem rsession {A:World}(h:Runs w A b s):Calls Tryz.prog 24 #[.pointer (some ⟨b,0,none⟩)] A fun e A'=>e=.returned (.tuple #[.int .i64 s.ses,.bool (decide (0<s.ses))])/\A.grownBy A' none:=by
 obtain ⟨Q,F,oa,wo,wc,h⟩:=h
 exact session_cl A h.cm
theorem rnumber {A:World}(h:Runs w A b s):Calls Tryz.prog 25 #[.pointer (some ⟨b,0,none⟩)] A fun e A'=>e=.returned (.int .i64 s.num)/\A'=A:=by
 obtain ⟨Q,F,oa,wo,wc,h⟩:=h
 exact number_cl A h.cm
theorem rtoken {A:World}(h:Runs w A b s):Calls Tryz.prog 26 #[.pointer (some ⟨b,0,none⟩)] A fun e A'=>e=.returned (.int .i64 s.tok)/\A'=A:=by
 obtain ⟨Q,F,oa,wo,wc,h⟩:=h
 exact token_cl A h.cm
theorem rinvoke {A:World}{ov:Value}{ops:List POp}(h:Runs w A b s)(ho:∀y,w.grownBy y none->Ops y ov ops)(hl:s.last<1000000000000):Calls Tryz.prog 9 #[.pointer (some ⟨b,0,none⟩),.agg #[ov]] A fun e A'=>∃s',e=.returned (.tuple #[.int .i64 (s.last+1),.int .i64 (openW s ops)])/\((openW s ops=0/\∃o n c,s'=s.id.put ⟨s.last+1,o,n,c,ops,false,0⟩)\/(openW s ops≠0/\s'=s.id))/\Runs w A' b s'/\Keep A A':=by
 obtain ⟨Q,F,oa,wo,wc,h⟩:=h
 refine (invoke9 A ov ops h.cm (fun y hy=>ho y (Fr.grown ((Fr.of (F:=F) h.gr (by simp)).trans hy fun i hi=>.inl hi) h.new)) hl).mono ?_
 rintro e A' ⟨rfl,s',h1,h2⟩
 exact ⟨s',rfl,h1,h.stp h2,h.keep h2⟩
theorem rstep {A:World}(now:Int)(h:Runs w A b s):Calls Tryz.prog 11 #[.pointer (some ⟨b,0,none⟩),.int .i64 now] A fun e A'=>∃v,e=.returned (.tuple #[v,.int .i64 (stepE s now)])/\MsgsOwn A' A.heap.size v (stepM s now)/\Runs w A' b (stepS s now)/\Keep A A':=by
 obtain ⟨Q,F,oa,wo,wc,h⟩:=h
 refine (step11 A now h.cm).mono ?_
 rintro e A' ⟨v,rfl,h1,h2⟩
 exact ⟨v,rfl,h1,h.stp h2,h.keep h2⟩
theorem rleave {A:World}(h:Runs w A b s)(ht:s.tok<=3999999999999992):Calls Tryz.prog 17 #[.pointer (some ⟨b,0,none⟩)] A fun e A'=>∃v u,e=.returned (.tuple #[v,u])/\MsgsOwn A' A.heap.size v (leaveM s)/\Rets A' A.heap.size u (leaveL s)/\Runs w A' b (leaveS s)/\Keep A A':=by
 obtain ⟨Q,F,oa,wo,wc,h⟩:=h
 refine (leave17 A h.cm ht).mono ?_
 rintro e A' ⟨v,u,rfl,h0,h1,h2⟩
 exact ⟨v,u,rfl,h0,h1,h.stp h2,h.keep h2⟩
theorem rhear {A:World}{ov:Value}{ao:Option Addr}{an ac:Nat}{m:PMsg}(h:Runs w A b s)(ho:Ops A ov m.ask.ops)(ha:Disk.Own A 0 (.slice ao an ac) m.tell.answer)(hl:m.tell.answer.length<=140737488354304)(hi:InM m)(ht:s.tok<=3999999999999992):Calls Tryz.prog 14 #[.pointer (some ⟨b,0,none⟩),msgV ov (.slice ao an ac) m] A fun e A'=>∃u,e=.returned u/\Rets A' A.heap.size u (hearL s m)/\Runs w A' b (hearS s m)/\Keep A A':=by
 obtain ⟨Q,F,oa,wo,wc,h⟩:=h
 refine (hear14 A ov ao an ac m h.cm ho ha hl hi ht).mono ?_
 rintro e A' ⟨u,rfl,h1,h2⟩
 exact ⟨u,rfl,h1,h.stp h2,h.keep h2⟩
def ints (l:List Int):List Value:=l.map (Value.int .i64)
structure Onc (w A:World)(b:Nat)(v7 v8:Value)(s:CS)(back toks:List Int)(p:Int × Int)(tn:Int)(i:Nat):Prop where
 run:Runs w A b s
 two:s.size=2
 row7:Row 2 A w.heap.size v7 (ints back)
 row8:Row 2 A w.heap.size v8 (ints toks)
 ap:∀k,v7.ownBlock=some k->v8.ownBlock≠some k
 ido:Ido s
 bk:BackOk s back
 nm:NumOk s p
 tk:∀y ∈ toks,y<=s.tok
 hd:toks=[]\/toks.getLast? = some s.tok
 lst:s.last<=i/\0<=s.last
 tokb:0<=s.tok/\s.tok<=8+8*(i:Int)
 nw:s.now<=tn/\0<=tn/\tn<=8*(i:Int)
 bl:back.length<=300*i
 tl:toks.length<=i
theorem Onc.keep {A A':World}{v7 v8:Value}{back toks:List Int}{p:Int × Int}{tn:Int}{i:Nat}(h:Onc w A b v7 v8 s back toks p tn i)(hg:A.grownBy A' none):Onc w A' b v7 v8 s back toks p tn i :=
 ⟨h.run.grown hg,h.two,h.row7.grown hg,h.row8.grown hg,h.ap,h.ido,h.bk,h.nm,h.tk,h.hd,h.lst,h.tokb,h.nw,h.bl,h.tl⟩
structure Mid (w A:World)(b:Nat)(v7 v8:Value)(s:CS)(t0:Int)(back toks:List Int)(p:Int × Int)(tn:Int)(i:Nat):Prop where
 run:Runs w A b s
 two:s.size=2
 row7:Row 2 A w.heap.size v7 (ints back)
 row8:Row 2 A w.heap.size v8 (ints toks)
 ap:∀k,v7.ownBlock=some k->v8.ownBlock≠some k
 ido:Ido s
 nm:NumOk s p
 tk:∀y ∈ toks,y<=t0
 hd:toks=[]\/toks.getLast? = some t0
 tok:s.tok=t0\/s.tok=t0+8
 lst:s.last<=(i+1:Nat)/\0<=s.last
 tokb:0<=s.tok/\s.tok<=8+8*((i+1:Nat):Int)
 nw:s.now<=tn/\0<=tn/\tn<=8*((i+1:Nat):Int)
 tl:toks.length<=i
theorem Mid.keep {A A':World}{v7 v8:Value}{t0:Int}{back toks:List Int}{p:Int × Int}{tn:Int}{i:Nat}(h:Mid w A b v7 v8 s t0 back toks p tn i)(hg:A.grownBy A' none):Mid w A' b v7 v8 s t0 back toks p tn i :=
 ⟨h.run.grown hg,h.two,h.row7.grown hg,h.row8.grown hg,h.ap,h.ido,h.nm,h.tk,h.hd,h.tok,h.lst,h.tokb,h.nw,h.tl⟩
theorem num_out {A A':World}{v:Value}{xs:List Value}{P:World->Prop}(hr:Row 2 A w.heap.size v xs)(hg:A.grownBy A' v.ownBlock)(h0:A.grownBy A' none->P A')(h1:∀k C,w.heap.size<=k->Blk A k 2 C->A.grownBy A' (some k)->P A'):P A':=by
 cases e:v.ownBlock with
 | none=>rw [e] at hg;exact h0 hg
 | some k =>
  rw [e] at hg
  obtain ⟨C,hC⟩:=hr.blk k e
  exact h1 k C (hr.lt k e).1 hC hg
theorem Runs.num {A A':World}{v:Value}{xs:List Value}(h:Runs w A b s)(hr:Row 2 A w.heap.size v xs)(hg:A.grownBy A' v.ownBlock):Runs w A' b s:=by
 refine num_out (P:=fun A'=>Runs w A' b s) hr hg (fun hg=>h.grown hg) fun k C hk hC hg=>?_
 obtain ⟨Q,F,oa,wo,wc,h⟩:=h
 refine ⟨_,F,oa,wo,wc,(h.cm.boxes).beside (G:=fun i=>i=k) (Fr.of hg (by simp)) ?_ ?_,grown_new h.gr hg (by intro x hx;simp at hx;omega),h.new⟩
 ·rintro i hi rfl
  rcases hi with hi | hi
  ·obtain ⟨t,c,hb,hkt⟩:=h.cm.ft i hi
   have:=blk_type hb hC
   subst this
   unfold KT at hkt
   omega
  ·obtain ⟨_,c,hb⟩:=hi
   have:=blk_type hb hC
   omega
 ·rintro i rfl
  exact ⟨2,C,hC,by decide,by decide⟩
theorem row_out {A A':World}{v u:Value}{xs ys:List Value}(h:Row 2 A w.heap.size u ys)(_hr:Row 2 A w.heap.size v xs)(hne:∀k,v.ownBlock=some k->u.ownBlock≠some k)(hg:A.grownBy A' v.ownBlock):Row 2 A' w.heap.size u ys:=h.same fun k hk=>hg.block k (h.lt k hk).2 (by
 cases e:v.ownBlock with
 | none=>simp
 | some j=>simp;rintro rfl;exact hne _ e hk)
theorem Mid.app7 {A A':World}{v7 v' v8:Value}{t0:Int}{back back' toks:List Int}{p:Int × Int}{tn:Int}{i:Nat}(h:Mid w A b v7 v8 s t0 back toks p tn i)(hr:Row 2 A' w.heap.size v' (ints back'))(hg:A.grownBy A' v7.ownBlock)(hn:∀k,v'.ownBlock=some k->v7.ownBlock=some k\/A.heap.size<=k):Mid w A' b v' v8 s t0 back' toks p tn i :=
 ⟨h.run.num h.row7 hg,h.two,hr,row_out h.row8 h.row7 h.ap hg,fun k hk e=>by
  rcases hn k hk with h1 | h1
  ·exact h.ap k h1 e
  ·have:=(h.row8.lt k e).2
   omega,h.ido,h.nm,h.tk,h.hd,h.tok,h.lst,h.tokb,h.nw,h.tl⟩
theorem Mid.next {A:World}{v7 v8:Value}{t0:Int}{back toks:List Int}{p:Int × Int}{tn:Int}{i:Nat}(h:Mid w A b v7 v8 s t0 back toks p tn i)(hb:BackOk s back)(hl:back.length<=300*(i+1))(hs:s.tok=t0)(_hne:toks≠[]):Onc w A b v7 v8 s back toks p tn (i+1):=by
 have:=h.tl
 refine ⟨h.run,h.two,h.row7,h.row8,h.ap,h.ido,hb,h.nm,by rw [hs];exact h.tk,by rw [hs];exact h.hd,h.lst,h.tokb,h.nw,by omega,by omega⟩
theorem Mid.app8 {A A':World}{v7 v' v8:Value}{t0:Int}{back toks:List Int}{p:Int × Int}{tn:Int}{i:Nat}(h:Mid w A b v7 v8 s t0 back toks p tn i)(hb:BackOk s back)(hl:back.length<=300*(i+1))(hr:Row 2 A' w.heap.size v' (ints (toks ++ [s.tok])))(hg:A.grownBy A' v8.ownBlock)(hn:∀k,v'.ownBlock=some k->v8.ownBlock=some k\/A.heap.size<=k):Onc w A' b v7 v' s back (toks ++ [s.tok]) p tn (i+1):=by
 have h1:=h.tl
 have h2:=h.tok
 refine ⟨h.run.num h.row8 hg,h.two,row_out h.row7 h.row8 (fun k hk e=>h.ap k e hk) hg,hr,fun k hk e=>?_,h.ido,hb,h.nm,fun y hy=>?_,.inr (by simp),h.lst,h.tokb,h.nw,by omega,by simp;omega⟩
 ·rcases hn k e with h1 | h1
  ·exact h.ap k hk h1
  ·have:=(h.row7.lt k hk).2
   omega
 ·rcases List.mem_append.1 hy with hy | hy
  ·have:=h.tk y hy
   omega
  ·simp at hy
   omega
structure Ret4 (w A:World)(b:Nat)(v7 v8 v17:Value)(s:CS)(t0:Int)(back toks:List Int)(rl:List PRet)(p:Int × Int)(tn:Int)(i:Nat):Prop where
 mid:Mid w A b v7 v8 s t0 back toks p tn i
 rets:∃B,Rets A B v17 rl
 fr:∀r ∈ rl,∀y ∈ back,y≠r.id
 pw:rl.Pairwise (fun a b=>a.id≠b.id)
 bk:BackOk s (back ++ rl.map (·.id))
 bl:back.length<=300*i
 rn:rl.length<=300
theorem rets_len (P:Nat->Bool)(what:Int)(ans:Bs):(s.rets P what ans).length<=s.L.length:=by
 refine gather_len (fun k c=>?_) _
 unfold endG
 split <;> simp
theorem hearL_len (m:PMsg):(hearL s m).length<=s.L.length:=by
 unfold hearL
 split
 ·unfold tellL goneL
  repeat' split
  all_goals first | exact rets_len _ _ _ | simp
 ·simp
theorem leaveL_len:(leaveL s).length<=s.L.length:=by
 unfold leaveL
 split
 ·exact rets_len _ _ _
 ·simp
theorem ret4_of {A A':World}{v7 v8 v17:Value}{s':CS}{back toks:List Int}{rl:List PRet}{p p':Int × Int}{tn tn':Int}{i B:Nat}(h:Onc w A b v7 v8 s back toks p tn i)(hi:i<300)(hr:Runs w A' b s')(hk:Keep A A')(hR:Rets A' B v17 rl)(hf:Fresh s s' rl)(hc:Cst s s')(hn:NumOk s' p')(hw:s'.now<=tn'/\0<=tn'/\tn'<=8*((i+1:Nat):Int))(hl:rl.length<=s.L.length):Ret4 w A' b v7 v8 v17 s' s.tok back toks rl p' tn' i:=by
 obtain ⟨f1,f2,f3,f4⟩:=hf h.ido back h.bk
 have k1:=hc.tok
 have k2:=hc.last
 have k3:=h.lst
 have k4:=h.tokb
 have k5:=h.run.ok.last
 refine ⟨⟨hr,hc.size.trans h.two,keep_row hk h.row7,keep_row hk h.row8,h.ap,f4,hn,h.tk,h.hd,hc.tok,⟨by push_cast;omega,by omega⟩,⟨by omega,by push_cast;omega⟩,hw,h.tl⟩,⟨B,hR⟩,f1,f2,f3,h.bl,by omega⟩
theorem Row.ints_sl {A:World}{B:Nat}{v:Value}{l:List Int}(h:Row 2 A B v (ints l)):∃ao cap,v=.slice ao l.length cap:=by
 obtain ⟨ao,cap,e⟩:=h.sl
 have:(ints l).length=l.length:=by simp [ints]
 rw [this] at e
 exact ⟨ao,cap,e⟩
structure PStep where
 kind:Int
 n:Int
 ops:List POp
 tell:PMsg
structure StpAt (w:World)(g off:Nat)(x:PStep)(o1:Value)(o2:Value)(av:Value):Prop where
 c0:w.cell? ⟨g,off,none⟩=some (.int .i64 x.kind)
 c1:w.cell? ⟨g,off+1,none⟩=some (.int .i64 x.n)
 c2:w.cell? ⟨g,off+2,none⟩=some o1
 ms:MsAt w g (off+3) o2 av x.tell
 ops:Ops w o1 x.ops
 ask:Ops w o2 x.tell.ask.ops
 ans:Seg w av x.tell.tell.answer
 good:GoodM x.tell
 n0:-9223372036854775808<=x.n/\x.n<=9223372036854775807
def StepsIn (w:World)(v:Value)(l:List PStep):Prop:=∃ao cap,v=.slice ao l.length cap/\l.length<=1000000000000/\∀j (hj:j<l.length),∃g off o1 o2 av,ao=some ⟨g,off,none⟩/\StpAt w g (off+j*16) l[j] o1 o2 av
variable {s:CS}
def Fore4 (w:World)(b:Nat)(v1 v7 v8:Value)(s:CS)(back toks:List Int)(p:Int × Int)(tn:Int)(i:Nat)(kd nn:Int)(o0:Value)(a:Act)(W:World):Prop :=
 ∃sb mb m' o1 n1 c1 o2 n2 c2 hv,T4 a v1 (.pointer (some ⟨b,0,none⟩)) v7 v8 (.int .i64 p.2) (.int .i64 p.1) (.int .i64 tn) (.int .i64 (i:Nat)) (.pointer (some ⟨sb,0,none⟩)) (.pointer (some ⟨mb,0,none⟩)) (.int .i64 s.ses) (.bool hv) (.slice none 0 0) ∧
  Onc w W b v7 v8 s back toks p tn i/\W.cell? ⟨sb,0,none⟩=some (.int .i64 kd)/\W.cell? ⟨sb,1,none⟩=some (.int .i64 nn)/\W.cell? ⟨sb,2,none⟩=some o0 ∧
  MB W mb (.slice o1 n1 c1) (.slice o2 n2 c2) m'/\Ops W (.slice o1 n1 c1) m'.ask.ops/\Disk.Own W 0 (.slice o2 n2 c2) m'.tell.answer/\m'.tell.answer.length<=140737488354304/\InM m'
theorem steps_at {w:World}{so:Option Addr}{sn sc:Nat}{ss:List PStep}(h:StepsIn w (.slice so sn sc) ss)(j:Nat)(hj:j<ss.length):ss.length=sn/\∃g off o1 o2 av,so=some ⟨g,off,none⟩/\StpAt w g (off+j*16) ss[j] o1 o2 av:=by
 obtain ⟨ao,cap,e,_,h⟩:=h
 simp at e
 obtain ⟨rfl,rfl,rfl⟩:=e
 obtain ⟨g,off,o1,o2,av,e,h⟩:=h j hj
 exact ⟨rfl,g,off,o1,o2,av,e,h⟩
theorem blk3 {w:World}{b t:Nat}{v0 v1 v2 v3 v4 v5 v6 v7 v8 v9 v10 v11 v12 v13 v14 v15:Value}(h:Blk w b t #[v0,v1,v2,v3,v4,v5,v6,v7,v8,v9,v10,v11,v12,v13,v14,v15]):w.cell? ⟨b,0,none⟩=some v0/\w.cell? ⟨b,1,none⟩=some v1/\w.cell? ⟨b,2,none⟩=some v2:=⟨h.cell 0,h.cell 1,h.cell 2⟩
theorem blk13 {w:World}{b t:Nat}{v0 v1 v2 v3 v4 v5 v6 v7 v8 v9 v10 v11 v12 v13 v14 v15:Value}(h:Blk w b t #[v0,v1,v2,v3,v4,v5,v6,v7,v8,v9,v10,v11,v12,v13,v14,v15]):w.cell? ⟨b,3,none⟩=some v3/\w.cell? ⟨b,4,none⟩=some v4/\w.cell? ⟨b,5,none⟩=some v5/\w.cell? ⟨b,6,none⟩=some v6/\w.cell? ⟨b,7,none⟩=some v7/\w.cell? ⟨b,8,none⟩=some v8/\w.cell? ⟨b,9,none⟩=some v9/\w.cell? ⟨b,10,none⟩=some v10/\w.cell? ⟨b,11,none⟩=some v11/\w.cell? ⟨b,12,none⟩=some v12/\w.cell? ⟨b,13,none⟩=some v13/\w.cell? ⟨b,14,none⟩=some v14/\w.cell? ⟨b,15,none⟩=some v15:=by
 have q:=fun j=>h.cell j
 exact ⟨q 3,q 4,q 5,q 6,q 7,q 8,q 9,q 10,q 11,q 12,q 13,q 14,q 15⟩
theorem fore4 (a:Act)(w A:World)(b:Nat)(so:Option Addr)(sn sc:Nat)(v7 v8:Value)(back toks:List Int)(p:Int × Int)(tn:Int)(i:Nat)(ss:List PStep)
  (hS:S4 a (.slice so sn sc) (.pointer (some ⟨b,0,none⟩)) v7 v8 (.int .i64 p.2) (.int .i64 p.1) (.int .i64 tn) (.int .i64 (i:Nat))) (ho:Onc w A b v7 v8 s back toks p tn i) (hs:StepsIn w (.slice so sn sc) ss) (hi:i<ss.length) (hl:i<300)
  (REST:Code) (Q:Exit->Act->World->Prop) (hk:∀a W kd nn o0 ops,(∀y,w.grownBy y none->Ops y o0 ops)->(∃o n c,o0=.slice o n c)->-9223372036854775808<=nn/\nn<=9223372036854775807->Fore4 w b (.slice so sn sc) v7 v8 s back toks p tn i kd nn o0 a W->REST.wp Tryz.prog Q a W) :
  (Code.seq (cL bd4) (.seq (cL (cR bd4)) (.seq (cL (cR (cR bd4))) (.seq (cL (cR (cR (cR bd4)))) (.seq (cL (cR (cR (cR (cR bd4))))) (.seq (cL (cR (cR (cR (cR (cR bd4)))))) REST)))))).wp Tryz.prog Q a A:=by
 have HO:Hid (Onc w A b v7 v8 s back toks p tn i):=ho
 obtain ⟨t,rfl⟩:=hS.eq
 clear hS
 obtain ⟨hlen,g,off,o0,o2,av,rfl,hst⟩:=steps_at hs i hi
 obtain ⟨x,hx⟩:∃x,ss[i]=x:=⟨_,rfl⟩
 rw [hx] at hst
 obtain ⟨x1,x2,x3,rfl⟩:=isSl_ops hst.ops
 obtain ⟨y1,y2,y3,rfl⟩:=isSl_ops hst.ask
 obtain ⟨z1,z2,z3,rfl⟩:=isSl_seg hst.ans
 have G:=ho.run.gr
 have d0:A.cell? ⟨g,off+i*16,none⟩=_:=G.cell hst.c0 (by simp)
 have d1:A.cell? ⟨g,off+i*16+1,none⟩=_:=G.cell hst.c1 (by simp)
 have d2:A.cell? ⟨g,off+i*16+2,none⟩=_:=G.cell hst.c2 (by simp)
 have d3:A.cell? ⟨g,off+i*16+3,none⟩=_:=G.cell hst.ms.c0 (by simp)
 have d4:A.cell? ⟨g,off+i*16+4,none⟩=_:=G.cell hst.ms.c1 (by simp)
 have d5:A.cell? ⟨g,off+i*16+5,none⟩=_:=G.cell hst.ms.c2 (by simp)
 have d6:A.cell? ⟨g,off+i*16+6,none⟩=_:=G.cell hst.ms.c3 (by simp)
 have d7:A.cell? ⟨g,off+i*16+7,none⟩=_:=G.cell hst.ms.c4 (by simp)
 have d8:A.cell? ⟨g,off+i*16+8,none⟩=_:=G.cell hst.ms.c5 (by simp)
 have d9:A.cell? ⟨g,off+i*16+9,none⟩=_:=G.cell hst.ms.c6 (by simp)
 have d10:A.cell? ⟨g,off+i*16+10,none⟩=_:=G.cell hst.ms.c7 (by simp)
 have d11:A.cell? ⟨g,off+i*16+11,none⟩=_:=G.cell hst.ms.c8 (by simp)
 have d12:A.cell? ⟨g,off+i*16+12,none⟩=_:=G.cell hst.ms.c9 (by simp)
 have d13:A.cell? ⟨g,off+i*16+13,none⟩=_:=G.cell hst.ms.c10 (by simp)
 have d14:A.cell? ⟨g,off+i*16+14,none⟩=_:=G.cell hst.ms.c11 (by simp)
 have d15:A.cell? ⟨g,off+i*16+15,none⟩=_:=G.cell hst.ms.c12 (by simp)
 obtain ⟨kd,hkd⟩:∃k,x.kind=k:=⟨_,rfl⟩
 obtain ⟨nn,hnn⟩:∃k,x.n=k:=⟨_,rfl⟩
 obtain ⟨m,hm⟩:∃k,x.tell=k:=⟨_,rfl⟩
 have HX:Hid ((∀y,w.grownBy y none->Ops y (.slice x1 x2 x3) x.ops)/\(-9223372036854775808<=nn/\nn<=9223372036854775807)/\Ops w (.slice y1 y2 y3) m.ask.ops/\Seg w (.slice z1 z2 z3) m.tell.answer/\GoodM m):=by
  refine ⟨fun y hy=>hst.ops.grown hy,?_,?_,?_,?_⟩
  ·rw [<-hnn];exact hst.n0
  ·rw [<-hm];exact hst.ask
  ·rw [<-hm];exact hst.ans
  ·rw [<-hm];exact hst.good
 rw [hkd] at d0
 rw [hnn] at d1
 rw [hm] at d3 d4 d5 d6 d7 d8 d9 d11 d12 d13 d14
 have j1:(i:Int)<(sn:Int):=by omega
 have j2:(0:Int)<=(i:Int):=by omega
 have HK:Hid (∀a W kd nn o0 ops,(∀y,w.grownBy y none->Ops y o0 ops)->(∃o n c,o0=.slice o n c)->-9223372036854775808<=nn/\nn<=9223372036854775807->Fore4 w b (.slice (some ⟨g,off,none⟩) sn sc) v7 v8 s back toks p tn i kd nn o0 a W->REST.wp Tryz.prog Q a W):=hk
 clear hst hkd hnn hm hx ho G hk hlen hs
 unfold bd4 rnd4 b4
 dsimp only [Tryz.f4,Option.getD,cL,cR,cB,cW]
 go_upto_region 12 with fail
 obtain ⟨W1,hW1,H1⟩:=al1 A #[.int .i64 kd,.int .i64 nn,.slice x1 x2 x3,.int .i64 m.kind,.int .i64 m.client,.int .i64 m.ask.kind,.int .i64 m.ask.token,.int .i64 m.ask.session,.int .i64 m.ask.number,.int .i64 m.ask.mark,.slice y1 y2 y3,.int .i64 m.tell.kind,.int .i64 m.tell.token,.int .i64 m.tell.session,.int .i64 m.tell.number,.slice z1 z2 z3] 47
 obtain ⟨sb,hsb⟩:∃x,A.heap.size=x:=⟨_,rfl⟩
 rw [hW1]
 rw [hsb] at H1 ⊢
 have HSB:Hid (A.heap.size=sb):=hsb
 clear hW1 hsb d0 d1 d2 d3 d4 d5 d6 d7 d8 d9 d10 d11 d12 d13 d14 d15
 obtain ⟨d3,d4,d5,d6,d7,d8,d9,d10,d11,d12,d13,d14,d15⟩:=blk13 H1.out.1
 go_wp2_with fail
 refine (copy6 (.slice y1 y2 y3) (.slice z1 z2 z3) m W1 (HX.out.2.2.1.grown (grown_trans HO.out.run.gr H1.out.2.1)) (HX.out.2.2.2.1.grown (grown_trans HO.out.run.gr H1.out.2.1)) HX.out.2.2.2.2.fit (by have:=HX.out.2.2.2.2.len;omega)).mono ?_
 rintro e W2 ⟨u,v,rfl,hu,hv,hg⟩
 obtain ⟨uo,un,uc,rfl,hun⟩:=hu.slice
 obtain ⟨vo,vn,vc,rfl⟩:=isSl_on hv
 have H2:Hid (Blk W2 sb 47 #[.int .i64 kd,.int .i64 nn,.slice x1 x2 x3,.int .i64 m.kind,.int .i64 m.client,.int .i64 m.ask.kind,.int .i64 m.ask.token,.int .i64 m.ask.session,.int .i64 m.ask.number,.int .i64 m.ask.mark,.slice y1 y2 y3,.int .i64 m.tell.kind,.int .i64 m.tell.token,.int .i64 m.tell.session,.int .i64 m.tell.number,.slice z1 z2 z3]/\A.grownBy W2 none/\OpsOwn W2 W1.heap.size (.slice uo un uc) m.ask.ops/\Disk.Own W2 W1.heap.size (.slice vo vn vc) m.tell.answer/\sb<W1.heap.size):=⟨H1.out.1.grown hg (by simp),grown_trans H1.out.2.1 hg,hu,hv,by have:=H1.out.2.2;have:=HSB.out;omega⟩
 have HZ:Hid (W1.heap.size<=W2.heap.size):=hg.size
 clear hu hv hg hun H1 d3 d4 d5 d6 d7 d8 d9 d10 d11 d12 d13 d14 d15
 unfold msgV
 go_upto_region 13 with fail
 obtain ⟨W3,hW3,H3⟩:=al1 W2 #[.int .i64 m.kind,.int .i64 m.client,.int .i64 m.ask.kind,.int .i64 m.ask.token,.int .i64 m.ask.session,.int .i64 m.ask.number,.int .i64 m.ask.mark,.slice uo un uc,.int .i64 m.tell.kind,.int .i64 m.tell.token,.int .i64 m.tell.session,.int .i64 m.tell.number,.slice vo vn vc] 45
 obtain ⟨mb,hmb⟩:∃x,W2.heap.size=x:=⟨_,rfl⟩
 rw [hW3]
 rw [hmb] at H3 ⊢
 have HMB:Hid (W2.heap.size=mb):=hmb
 have H4:Hid (A.grownBy W3 none/\OpsOwn W3 W1.heap.size (.slice uo un uc) m.ask.ops/\Disk.Own W3 W1.heap.size (.slice vo vn vc) m.tell.answer/\sb<W1.heap.size/\MB W3 mb (.slice uo un uc) (.slice vo vn vc) m):=⟨grown_trans H2.out.2.1 H3.out.2.1,H2.out.2.2.1.grown H3.out.2.1,H2.out.2.2.2.1.grown H3.out.2.1,H2.out.2.2.2.2,H3.out.1⟩
 have HS3:Hid (W3.cell? ⟨sb,0,none⟩=some (.int .i64 kd)/\W3.cell? ⟨sb,1,none⟩=some (.int .i64 nn)/\W3.cell? ⟨sb,2,none⟩=some (.slice x1 x2 x3)):=blk3 (H2.out.1.grown H3.out.2.1 (by simp))
 clear hW3 hmb H2 H3
 go_wp2_with fail
 refine (rsession (HO.out.run.grown H4.out.1)).mono ?_
 rintro e W5 ⟨rfl,hg⟩
 have H5:Hid (A.grownBy W5 none/\OpsOwn W5 W1.heap.size (.slice uo un uc) m.ask.ops/\Disk.Own W5 W1.heap.size (.slice vo vn vc) m.tell.answer/\sb<W1.heap.size/\MB W5 mb (.slice uo un uc) (.slice vo vn vc) m):=⟨grown_trans H4.out.1 hg,H4.out.2.1.grown hg,H4.out.2.2.1.grown hg,H4.out.2.2.2.1,H4.out.2.2.2.2.grown hg⟩
 have HS5:Hid (W5.cell? ⟨sb,0,none⟩=some (.int .i64 kd)/\W5.cell? ⟨sb,1,none⟩=some (.int .i64 nn)/\W5.cell? ⟨sb,2,none⟩=some (.slice x1 x2 x3)):=⟨hg.cell HS3.out.1 (by simp),hg.cell HS3.out.2.1 (by simp),hg.cell HS3.out.2.2 (by simp)⟩
 clear hg H4 HS3
 go_wp2_with fail
 refine (rnumber (HO.out.run.grown H5.out.1)).mono ?_
 rintro e W6 ⟨rfl,rfl⟩
 obtain ⟨c0,c1,c2,c3,c4,c5,c6,c7,c8,c9,c10,c11,c12⟩:=H5.out.2.2.2.2.cells
 have f0:=H5.out.2.2.2.2.free 0
 have f1:=H5.out.2.2.2.2.free 1
 have f10:=H5.out.2.2.2.2.free 10
 have mk:∀(kb:Int) (W:World),((kb=m.tell.session\/kb=s.ses)/\W6.grownBy W (some mb)/\MB W mb (.slice uo un uc) (.slice vo vn vc) ⟨2,s.num,m.ask,⟨m.tell.kind,m.tell.token,kb,m.tell.number,m.tell.answer⟩⟩)->Onc w W b v7 v8 s back toks p tn i/\W.cell? ⟨sb,0,none⟩=some (.int .i64 kd)/\W.cell? ⟨sb,1,none⟩=some (.int .i64 nn)/\W.cell? ⟨sb,2,none⟩=some (.slice x1 x2 x3)/\MB W mb (.slice uo un uc) (.slice vo vn vc) ⟨2,s.num,m.ask,⟨m.tell.kind,m.tell.token,kb,m.tell.number,m.tell.answer⟩⟩/\Ops W (.slice uo un uc) m.ask.ops/\Disk.Own W 0 (.slice vo vn vc) m.tell.answer/\m.tell.answer.length<=140737488354304/\InM ⟨2,s.num,m.ask,⟨m.tell.kind,m.tell.token,kb,m.tell.number,m.tell.answer⟩⟩:=by
  rintro kb W ⟨hkb,hg,hmb⟩
  have hmA:A.heap.size<=mb:=by have:=H5.out.2.2.2.1;have:=HSB.out;have:=HMB.out;have:=HZ.out;omega
  have hne:sb≠mb:=by have:=H5.out.2.2.2.1;have:=HSB.out;have:=HMB.out;have:=HZ.out;omega
  have hgr:A.grownBy W none:=grown_new H5.out.1 hg (by intro x hx;simp at hx;omega)
  have hin:=HX.out.2.2.2.2.inm
  have hok:=HO.out.run.ok
  refine ⟨HO.out.keep hgr,hg.cell HS5.out.1 (by simpa using hne),hg.cell HS5.out.2.1 (by simpa using hne),hg.cell HS5.out.2.2 (by simpa using hne),hmb,(H5.out.2.1.set H5.out.2.2.2.2 (by decide) (by decide) hg).ops,?_,?_,?_⟩
  ·exact (own_set H5.out.2.2.1 H5.out.2.2.2.2 (by decide) hg).mono (Nat.zero_le _)
  ·have:=HX.out.2.2.2.2.len;omega
  ·refine ⟨by dsimp only;omega,by dsimp only;omega,?_,?_,hin.ask,?_⟩
   ·dsimp only;omega
   ·have:=hok.num;dsimp only;omega
   ·obtain ⟨a1,a2,a3,a4,a5,a6,a7,a8⟩:=hin.tell
    have:=hok.ses
    refine ⟨a1,a2,a3,a4,?_,?_,a7,a8⟩
    ·dsimp only;rcases hkb with rfl | rfl <;> omega
    ·dsimp only;rcases hkb with rfl | rfl <;> omega
 have MK:Hid _:=mk
 have HB1:Hid (W6.grownBy ((W6.setCell ⟨mb,0,none⟩ (.int .i64 2)).setCell ⟨mb,1,none⟩ (.int .i64 s.num)) (some mb)/\MB ((W6.setCell ⟨mb,0,none⟩ (.int .i64 2)).setCell ⟨mb,1,none⟩ (.int .i64 s.num)) mb (.slice uo un uc) (.slice vo vn vc) ⟨2,s.num,m.ask,m.tell⟩) :=
  ⟨grown_trans (grown_setCell _ _ _ _) (grown_setCell _ _ _ _),Blk.store (Blk.store H5.out.2.2.2.2 0 _) 1 _⟩
 have HB2:Hid (W6.grownBy (((W6.setCell ⟨mb,0,none⟩ (.int .i64 2)).setCell ⟨mb,1,none⟩ (.int .i64 s.num)).setCell ⟨mb,10,none⟩ (.int .i64 s.ses)) (some mb)/\MB (((W6.setCell ⟨mb,0,none⟩ (.int .i64 2)).setCell ⟨mb,1,none⟩ (.int .i64 s.num)).setCell ⟨mb,10,none⟩ (.int .i64 s.ses)) mb (.slice uo un uc) (.slice vo vn vc) ⟨2,s.num,m.ask,⟨m.tell.kind,m.tell.token,s.ses,m.tell.number,m.tell.answer⟩⟩) :=
  ⟨grown_trans HB1.out.1 (grown_setCell _ _ _ _),Blk.store HB1.out.2 10 _⟩
 obtain ⟨hv,hhv⟩:∃hv,decide (0<s.ses)=hv:=⟨_,rfl⟩
 rw [hhv]
 clear mk hhv c2 c3 c4 c5 c6 c7 c8 c9 c11 c12
 cases hv with
 | false =>
  go_wp2_with fail
  generalize ((W6.setCell ⟨mb,0,none⟩ (.int .i64 2)).setCell ⟨mb,1,none⟩ (.int .i64 s.num))=W at HB1 ⊢
  have R:=MK.out m.tell.session W ⟨.inl rfl,HB1.out.1,HB1.out.2⟩
  exact HK.out _ _ _ _ _ _ HX.out.1 ⟨_,_,_,rfl⟩ HX.out.2.1 ⟨sb,mb,_,uo,un,uc,vo,vn,vc,_,⟨rfl,rfl,rfl,rfl,rfl,rfl,rfl,rfl,rfl,rfl,rfl,rfl,rfl,rfl,rfl⟩,R⟩
 | true =>
  have r2:(i:Int).tmod 2=(i:Int) % 2:=Int.tmod_eq_emod_of_nonneg (by omega)
  rcases (by omega:(i:Int) % 2=0\/(i:Int) % 2=1) with r1 | r1
  ·rw [r1] at r2
   clear r1
   go_wp2_with fail
   generalize (((W6.setCell ⟨mb,0,none⟩ (.int .i64 2)).setCell ⟨mb,1,none⟩ (.int .i64 s.num)).setCell ⟨mb,10,none⟩ (.int .i64 s.ses))=W at HB2 ⊢
   have R:=MK.out s.ses W ⟨.inr rfl,HB2.out.1,HB2.out.2⟩
   exact HK.out _ _ _ _ _ _ HX.out.1 ⟨_,_,_,rfl⟩ HX.out.2.1 ⟨sb,mb,_,uo,un,uc,vo,vn,vc,_,⟨rfl,rfl,rfl,rfl,rfl,rfl,rfl,rfl,rfl,rfl,rfl,rfl,rfl,rfl,rfl⟩,R⟩
  ·rw [r1] at r2
   clear r1
   go_wp2_with fail
   generalize ((W6.setCell ⟨mb,0,none⟩ (.int .i64 2)).setCell ⟨mb,1,none⟩ (.int .i64 s.num))=W at HB1 ⊢
   have R:=MK.out m.tell.session W ⟨.inl rfl,HB1.out.1,HB1.out.2⟩
   exact HK.out _ _ _ _ _ _ HX.out.1 ⟨_,_,_,rfl⟩ HX.out.2.1 ⟨sb,mb,_,uo,un,uc,vo,vn,vc,_,⟨rfl,rfl,rfl,rfl,rfl,rfl,rfl,rfl,rfl,rfl,rfl,rfl,rfl,rfl,rfl⟩,R⟩
variable {s:CS}
theorem inf2:(Tryz.prog.info? 2).map (fun i=>(i.zero,i.size,i.bytes))=some (some (.int .i64 0),1,8):=by kernel_rfl
theorem rd_blk1 {w:World}{g t:Nat}{x:Value}(h:Blk w g t #[x]):Rd w (.slice (some ⟨g,0,none⟩) 1 1) [x]:=by
 refine ⟨_,1,rfl,Nat.le_refl _,by unfold maxLen;omega,by simp,fun j hj=>⟨g,0,rfl,?_⟩⟩
 have:j=0:=by simpa using hj
 subst this
 exact h.cell 0
theorem ints_at {A:World}{B:Nat}{v:Value}{l:List Int}(h:Row 2 A B v (ints l))(j:Nat)(hj:j<l.length):∃g cap,v=.slice (some ⟨g,0,none⟩) l.length cap/\A.cell? ⟨g,j,none⟩=some (.int .i64 l[j]):=by
 obtain ⟨ao,cap,e⟩:=Row.ints_sl h
 subst e
 have hj':j<(ints l).length:=by simpa [ints] using hj
 rcases h.shape with ⟨_,h0⟩ | ⟨g,c,C,e,_⟩
 ·rw [h0] at hj'
  simp at hj'
 ·simp [ints] at e
  obtain ⟨rfl,rfl⟩:=e
  refine ⟨g,cap,rfl,?_⟩
  have:=h.cell j hj'
  simpa [ints] using this
theorem rets_at {A:World}{B:Nat}{v:Value}{l:List PRet}(h:Rets A B v l)(j:Nat)(hj:j<l.length):∃g cap,v=.slice (some ⟨g,0,none⟩) l.length cap/\A.cell? ⟨g,j*3,none⟩=some (.int .i64 l[j].id):=by
 obtain ⟨g,cap,x,e,_,⟨av,rfl,_⟩,_,_,hc⟩:=h.cell j hj
 have:=hc 0 (by decide)
 simp at this
 exact ⟨g,cap,e,this⟩
theorem ints_app (l:List Int)(x:Int):ints l ++ [.int .i64 x]=ints (l ++ [x]):=by simp [ints]
def Look4 (w:World)(b:Nat)(v1 v8:Value)(s:CS)(t0:Int)(toks:List Int)(p:Int × Int)(tn:Int)(i:Nat)(a:Act)(W:World):Prop :=
 ∃v7 back,S4 a v1 (.pointer (some ⟨b,0,none⟩)) v7 v8 (.int .i64 p.2) (.int .i64 p.1) (.int .i64 tn) (.int .i64 (i:Nat))/\Mid w W b v7 v8 s t0 back toks p tn i/\BackOk s back/\back.length<=300*(i+1)
theorem look4 (a:Act)(w A:World)(b:Nat)(v1 v7 v8 v17:Value)(t0:Int)(back toks:List Int)(rl:List PRet)(p:Int × Int)(tn:Int)(i:Nat)(hi:i<300)
  (hU:U4 a v1 (.pointer (some ⟨b,0,none⟩)) v7 v8 (.int .i64 p.2) (.int .i64 p.1) (.int .i64 tn) (.int .i64 (i:Nat)) v17) (hr:Ret4 w A b v7 v8 v17 s t0 back toks rl p tn i) :
  lb4.wp Tryz.prog (At4 (Look4 w b v1 v8 s t0 toks p tn i)) a A:=by
 obtain ⟨B,hB⟩:=hr.rets
 have HR:Hid (Ret4 w A b v7 v8 v17 s t0 back toks rl p tn i/\Rets A B v17 rl):=⟨hr,hB⟩
 obtain ⟨t,rfl⟩:=hU.eq
 obtain ⟨ro,rc,rfl⟩:=LRow.shape hB
 obtain ⟨ao,ac,rfl⟩:=Row.ints_sl hr.mid.row7
 obtain ⟨n,hn⟩:∃n,rl.length=n:=⟨_,rfl⟩
 have HN:Hid (rl.length=n):=hn
 rw [hn]
 clear hU hr hB hn
 unfold lb4 rest4 bd4 rnd4 b4
 dsimp only [Tryz.f4,Option.getD,cL,cR,cB,cW]
 go_wp2_with fail
 go_loopw [7,24] (fun v q wr=>∃j:Nat,q=.int .i64 (j:Nat)/\j<=n/\Hid (Mid w wr b v v8 s t0 (back ++ (rl.take j).map (·.id)) toks p tn i/\Rets wr B (.slice ro rl.length rc) rl)) (fun _ q _=>n-(intOf q).toNat)
 case atStart=>exact ⟨0,rfl,Nat.zero_le _,by simpa using HR.out.1.mid,HR.out.2⟩
 case round =>
  obtain ⟨j,rfl,hj,H⟩:=hrel
  by_cases hlt:j<n
  ·have i1:(j:Int)<(n:Int):=by omega
   have i2:(0:Int)<=(j:Int):=by omega
   obtain ⟨g,cap,e,c0⟩:=rets_at H.out.2 j (by rw [HN.out];exact hlt)
   simp at e
   obtain ⟨rfl,rfl⟩:=e
   obtain ⟨id,hid⟩:∃x,(rl[j]'(by rw [HN.out];exact hlt)).id=x:=⟨_,rfl⟩
   rw [hid] at c0
   obtain ⟨l7,hl7⟩:∃x,back ++ (rl.take j).map (·.id)=x:=⟨_,rfl⟩
   have HI:Hid ((∀y ∈ l7,y≠id)/\l7 ++ [id]=back ++ (rl.take (j+1)).map (·.id)/\l7.length<=300*(i+1)):=by
    have hjl:j<rl.length:=by rw [HN.out];exact hlt
    rw [<-hl7,<-hid]
    refine ⟨fun y hy=>?_,?_,?_⟩
    ·rcases List.mem_append.1 hy with hy | hy
     ·exact HR.out.1.fr _ (List.getElem_mem _) y hy
     ·obtain ⟨r,hr,rfl⟩:=List.mem_map.1 hy
      obtain ⟨k,hk,rfl⟩:=List.mem_iff_getElem.1 hr
      rw [List.getElem_take]
      have hk':k<j:=by simp at hk;omega
      exact List.pairwise_iff_getElem.1 HR.out.1.pw k j (by omega) hjl hk'
    ·rw [List.append_assoc,List.take_succ_eq_append_getElem hjl,List.map_append]
     rfl
    ·have h1:=HR.out.1.bl
     have h2:=HR.out.1.rn
     simp
     omega
   rw [hl7] at H
   obtain ⟨ao,ac,rfl⟩:=Row.ints_sl H.out.1.row7
   obtain ⟨m,hm⟩:∃m,l7.length=m:=⟨_,rfl⟩
   have HM:Hid (l7.length=m):=hm
   rw [hm]
   obtain ⟨wo,hwo⟩:∃wo:World,wo=wr:=⟨_,rfl⟩
   subst hwo
   have HC:Hid (∀wk,wo.grownBy wk none->wk.cell? ⟨g,j*3,none⟩=some (.int .i64 id)):=fun wk hk=>hk.cell c0 (by simp)
   clear hl7 hid c0 hm
   go_wp2_with fail
   go_loopw [25] (fun q wr=>∃k:Nat,q=.int .i64 (k:Nat)/\k<=m/\Hid (wo.grownBy wr none)) (fun q _=>m-(intOf q).toNat)
   case atStart=>exact ⟨0,rfl,Nat.zero_le _,grown_refl _ _⟩
   case round =>
    obtain ⟨k,rfl,hk,G⟩:=hrel
    by_cases hlk:k<m
    ·have k1:(k:Int)<(m:Int):=by omega
     have k2:(0:Int)<=(k:Int):=by omega
     obtain ⟨g7,cap7,e7,c7⟩:=ints_at H.out.1.row7 k (by rw [HM.out];exact hlk)
     simp at e7
     obtain ⟨rfl,rfl⟩:=e7
     obtain ⟨y,hy⟩:∃y,l7[k]'(by rw [HM.out];exact hlk)=y:=⟨_,rfl⟩
     have hne:(y==id)=false:=by
      rw [beq_eq_false_iff_ne,<-hy]
      exact HI.out.1 _ (List.getElem_mem _)
     rw [hy] at c7
     have HC7:Hid (∀wk,wo.grownBy wk none->wk.cell? ⟨g7,k,none⟩=some (.int .i64 y)):=fun wk hk=>hk.cell c7 (by simp)
     clear hy c7
     go_upto_region 50 with fail
     refine wp_region_hold 1000 (fun y=>wo.grownBy y none) (by kernel_rfl) ?_
     have G0:Hid (wo.grownBy wr.drew none):=grown_trans G.out (grown_drew _ _)
     generalize wr.drew=wd at G0 ⊢
     have J:Idx [0,1,2,3,4,5,6,7,8,9]:=trivial
     iterate 10 (refine tK J (G0.out) rfl rfl (fun wk hk=>by have q1:=HC.out wk hk;have q2:=HC7.out wk hk;go_simp;try rfl) ?_;replace J:=J.tl;try simp only [pN])
     clear J
     refine wpHold_done (by kernel_rfl) ?_
     refine (‹∀(a:Act) (w:World),Code.wp Tryz.prog _ _ a w->_› _ _ ?_)
     have HLK:Hid (k<m):=hlk
     have d1:IntKind.i64.wrap ((k:Int)+1)=(k:Int)+1:=by have:=HI.out.2.2;have:=HM.out;rw [IntKind.wrap_i64];omega
     go_wp2_with fail
     go_roundw
     case rel=>exact ⟨k+1,by go_num,by have:=HLK.out;omega,G0⟩
     case measure=>have:=HLK.out;simp [intOf];omega
    ·have k1:¬(k:Int)<(m:Int):=by omega
     have q1:=HC.out wr G.out
     obtain ⟨w5,hw5,H5⟩:=al1 wr #[.int .i64 id] 2
     obtain ⟨g5,hg5⟩:∃x,wr.heap.size=x:=⟨_,rfl⟩
     rw [hg5] at H5
     have HW5:Hid (wr.alloc (.cells #[.int .i64 id] 2)=w5/\wr.heap.size=g5):=⟨hw5,hg5⟩
     have GO:Hid (wo.grownBy w5 none):=grown_trans G.out H5.out.2.1
     clear hw5 hg5
     go_wp2_with (at_builtin;rw [HW5.out.1,HW5.out.2];refine appR 72 2 8 _ rfl inf2 rfl w5 rfl _ _ rfl w.heap.size (.slice ao m ac) (ints l7) (.slice (some ⟨g5,0,none⟩) 1 1) [.int .i64 id] rfl rfl ?d5 (rd_blk1 H5.out.1) (by intro x hx;simp at hx;subst hx;rfl) ?d0 ?d1 ?d2 ?_)
     case d5 =>
      have:=H.out.1.row7.grown GO.out
      rw [HM.out] at this
      exact this
     case d0=>have:=HI.out.2.2;simp [ints];omega
     case d1=>have:=HI.out.2.2;unfold maxLen;simp [ints];omega
     case d2=>exact (grown_trans H.out.1.run.gr GO.out).size
     intro v9 w9 hr9 hg9 hv9
     have HZ:Hid (Mid w w9 b v9 v8 s t0 (back ++ (rl.take (j+1)).map (·.id)) toks p tn i/\Rets w9 B (.slice (some ⟨g,0,none⟩) rl.length rc) rl):=by
      rw [ints_app,HI.out.2.1] at hr9
      rw [<-HM.out] at hg9 hv9
      refine ⟨(H.out.1.keep GO.out).app7 hr9 hg9 (fun k hk=>?_),?_⟩
      ·exact hv9 k hk
      ·exact num_out (P:=fun y=>Rets y B (.slice (some ⟨g,0,none⟩) rl.length rc) rl) (H.out.1.row7.grown GO.out) hg9 (fun hg=>(H.out.2.grown GO.out).grown hg) fun k C _ hC hg=>(H.out.2.grown GO.out).set hC (by decide) (by decide) hg
     obtain ⟨u1,u2,u3,hu⟩:∃u1 u2 u3,v9=.slice u1 u2 u3:=by
      obtain ⟨a1,a2,e⟩:=hr9.sl
      exact ⟨_,_,_,e⟩
     subst hu
     clear hr9 hg9 hv9
     have HLJ:Hid (j<n):=hlt
     have d1:IntKind.i64.wrap ((j:Int)+1)=(j:Int)+1:=by have:=HR.out.1.rn;have:=HN.out;rw [IntKind.wrap_i64];omega
     go_wp2_with fail
     go_roundw
     case rel=>exact ⟨j+1,by go_num,by have:=HLJ.out;omega,HZ.out⟩
     case measure=>have:=HLJ.out;simp [intOf];omega
  ·have i1:¬(j:Int)<(n:Int):=by omega
   have hjn:j=rl.length:=by rw [HN.out];omega
   go_wp2_with fail
   refine ⟨_,_,⟨rfl,rfl,rfl,rfl,rfl,rfl,rfl,rfl,rfl,rfl⟩,?_,HR.out.1.bk,?_⟩
   ·have:=H.out.1
    rw [hjn,List.take_length] at this
    exact this
   ·have h1:=HR.out.1.bl
    have h2:=HR.out.1.rn
    simp
    omega
variable {s:CS}
def End4 (w:World)(b:Nat)(v1:Value)(s:CS)(p:Int × Int)(tn:Int)(i:Nat)(a:Act)(W:World):Prop :=
 ∃v7 v8 back toks,S4 a v1 (.pointer (some ⟨b,0,none⟩)) v7 v8 (.int .i64 p.2) (.int .i64 p.1) (.int .i64 tn) (.int .i64 (i:Nat))/\Onc w W b v7 v8 s back toks p tn (i+1)
theorem toks4 (a:Act)(w A:World)(b:Nat)(v1 v7 v8:Value)(t0:Int)(back toks:List Int)(p:Int × Int)(tn:Int)(i:Nat)(hi:i<300)
  (hS:S4 a v1 (.pointer (some ⟨b,0,none⟩)) v7 v8 (.int .i64 p.2) (.int .i64 p.1) (.int .i64 tn) (.int .i64 (i:Nat))) (hm:Mid w A b v7 v8 s t0 back toks p tn i) (hb:BackOk s back) (hl:back.length<=300*(i+1)) :
  tk4.wp Tryz.prog (At4 (End4 w b v1 s p tn i)) a A:=by
 obtain ⟨t,rfl⟩:=hS.eq
 obtain ⟨ao,ac,rfl⟩:=Row.ints_sl hm.row8
 obtain ⟨n,hn⟩:∃n,toks.length=n:=⟨_,rfl⟩
 have HN:Hid (toks.length=n):=hn
 rw [hn] at hm ⊢
 have HM:Hid (Mid w A b v7 (.slice ao n ac) s t0 back toks p tn i/\BackOk s back/\back.length<=300*(i+1)):=⟨hm,hb,hl⟩
 have HL:Hid (n<=300):=by have:=hm.tl;unfold Hid;omega
 have hd:=hm.hd
 have htk:=hm.tk
 have htok:=hm.tok
 clear hS hm hb hl
 unfold tk4 rest4 bd4 rnd4 b4
 dsimp only [Tryz.f4,Option.getD,cL,cR,cB,cW]
 by_cases h0:n=0
 ·have HT:Hid (∀y ∈ toks,y≠s.tok):=by
   have:toks=[]:=List.eq_nil_of_length_eq_zero (by omega)
   subst this
   exact fun y hy=>absurd hy (by simp)
  clear hd htk htok hn
  have z1:((n:Int)==0)=true:=by rw [h0];rfl
  clear h0
  go_upto_region 53 with fail
  refine wp_region_hold 1000 (fun y=>A.grownBy y none) (by kernel_rfl) ?_
  have G0:Hid (A.grownBy A.drew none):=grown_drew _ _
  generalize A.drew=wd at G0 ⊢
  have J:Idx [0,1,2,3]:=trivial
  iterate 4 (refine tK J (G0.out) rfl rfl (fun wk hk=>by skip;go_simp;try rfl) ?_;replace J:=J.tl;try simp only [pN])
  clear J
  have J:Idx [4,5,6,7,8,9,10,11,12]:=trivial
  iterate 9 (refine sk J (G0.out) rfl rfl ?_;replace J:=J.tl;try simp only [pN])
  clear J
  have J:Idx [13]:=trivial
  iterate 1 (refine tK J (G0.out) rfl rfl (fun wk hk=>by skip;go_simp;try rfl) ?_;replace J:=J.tl;try simp only [pN])
  clear J
  refine wpHold_done (by kernel_rfl) ?_
  refine (‹∀(a:Act) (w:World),Code.wp Tryz.prog _ _ a w->_› _ _ ?_)
  obtain ⟨wo,hwo⟩:∃wo:World,wo=wd:=⟨_,rfl⟩
  have HMO:Hid (Mid w wo b v7 (.slice ao n ac) s t0 back toks p tn i):=by rw [hwo];exact HM.out.1.keep G0.out
  rw [<-hwo]
  clear hwo
  go_wp2_with fail
  go_loopw [26] (fun q wr=>∃k:Nat,q=.int .i64 (k:Nat)/\k<=n/\Hid (wo.grownBy wr none)) (fun q _=>n-(intOf q).toNat)
  case atStart=>exact ⟨0,rfl,Nat.zero_le _,grown_refl _ _⟩
  case round =>
   obtain ⟨k,rfl,hk,G⟩:=hrel
   by_cases hlk:k<n
   ·have k1:(k:Int)<(n:Int):=by omega
    have k2:(0:Int)<=(k:Int):=by omega
    have HLK:Hid (k<n):=hlk
    have d1:IntKind.i64.wrap ((k:Int)+1)=(k:Int)+1:=by have:=HL.out;rw [IntKind.wrap_i64];omega
    have hr8:=HMO.out.row8
    rw [<-HN.out] at hr8
    obtain ⟨g7,cap7,e7,c7⟩:=ints_at hr8 k (by rw [HN.out];exact hlk)
    simp at e7
    obtain ⟨rfl,rfl⟩:=e7
    obtain ⟨y,hy⟩:∃y,toks[k]'(by rw [HN.out];exact hlk)=y:=⟨_,rfl⟩
    have hne:(y==s.tok)=false:=by
     rw [beq_eq_false_iff_ne,<-hy]
     exact HT.out _ (List.getElem_mem _)
    rw [hy] at c7
    have HC7:Hid (∀wk,wo.grownBy wk none->wk.cell? ⟨g7,k,none⟩=some (.int .i64 y)):=fun wk hk=>hk.cell c7 (by simp)
    clear hy c7 hr8
    go_upto_region 57 with fail
    refine wp_region_hold 1000 (fun y=>wo.grownBy y none) (by kernel_rfl) ?_
    have G0:Hid (wo.grownBy wr.drew none):=grown_trans G.out (grown_drew _ _)
    generalize wr.drew=wd at G0 ⊢
    have J:Idx [0,1,2,3,4]:=trivial
    iterate 5 (refine tK J (G0.out) rfl rfl (fun wk hk=>by have q2:=HC7.out wk hk;go_simp;try rfl) ?_;replace J:=J.tl;try simp only [pN])
    clear J
    refine wpHold_one (i:=5) rfl (by kernel_rfl) (by rfl) (fun K hK=>?_)
    go_wp2_with fail
    refine (rtoken (HMO.out.run.grown G0.out)).mono ?_
    rintro e w3 ⟨rfl,e3⟩
    subst e3
    go_wp2_with fail
    refine hK.out _ _ (fun _=>G0.out) ?_
    clear hK K
    try simp only [pN]
    have J:Idx [6]:=trivial
    iterate 1 (refine tK J (G0.out) rfl rfl (fun wk hk=>by have q2:=HC7.out wk hk;go_simp;try rfl) ?_;replace J:=J.tl;try simp only [pN])
    clear J
    refine wpHold_done (by kernel_rfl) ?_
    refine (‹∀(a:Act) (w:World),Code.wp Tryz.prog _ _ a w->_› _ _ ?_)
    go_wp2_with fail
    go_roundw
    case rel=>exact ⟨k+1,by go_num,by have:=HLK.out;omega,G0⟩
    case measure=>have:=HLK.out;simp [intOf];omega
   ·have k1:¬(k:Int)<(n:Int):=by omega
    go_wp2_with fail
    refine (rtoken (HMO.out.run.grown G.out)).mono ?_
    rintro e w3 ⟨rfl,e3⟩
    have G3:Hid (wo.grownBy w3 none):=by rw [e3];exact G.out
    clear e3
    obtain ⟨w5,hw5,H5⟩:=al1 w3 #[.int .i64 s.tok] 2
    obtain ⟨g5,hg5⟩:∃x,w3.heap.size=x:=⟨_,rfl⟩
    rw [hg5] at H5
    have HW5:Hid (w3.alloc (.cells #[.int .i64 s.tok] 2)=w5/\w3.heap.size=g5):=⟨hw5,hg5⟩
    have GO:Hid (wo.grownBy w5 none):=grown_trans G3.out H5.out.2.1
    clear hw5 hg5
    go_wp2_with (at_builtin;rw [HW5.out.1,HW5.out.2];refine appR 72 2 8 _ rfl inf2 rfl w5 rfl _ _ rfl w.heap.size (.slice ao n ac) (ints toks) (.slice (some ⟨g5,0,none⟩) 1 1) [.int .i64 s.tok] rfl rfl ?d5 (rd_blk1 H5.out.1) (by intro x hx;simp at hx;subst hx;rfl) ?d0 ?d1 ?d2 ?_)
    case d5=>exact HMO.out.row8.grown GO.out
    case d0=>have:=HL.out;have:=HN.out;simp [ints];omega
    case d1=>have:=HL.out;have:=HN.out;unfold maxLen;simp [ints];omega
    case d2=>exact (grown_trans HMO.out.run.gr GO.out).size
    intro v9 w9 hr9 hg9 hv9
    rw [ints_app] at hr9
    have HZ:Hid (Onc w w9 b v7 v9 s back (toks ++ [s.tok]) p tn (i+1)):=(HMO.out.keep GO.out).app8 HM.out.2.1 HM.out.2.2 hr9 hg9 hv9
    obtain ⟨u1,u2,u3,hu⟩:∃u1 u2 u3,v9=.slice u1 u2 u3:=by
     obtain ⟨a1,a2,e⟩:=hr9.sl
     exact ⟨_,_,_,e⟩
    subst hu
    clear hr9 hg9 hv9
    go_wp2_with fail
    exact ⟨_,_,_,_,⟨rfl,rfl,rfl,rfl,rfl,rfl,rfl,rfl,rfl,rfl⟩,HZ.out⟩
 ·have hne:toks≠[]:=fun e=>by rw [e] at hn;simp at hn;omega
  have hlast:toks.getLast? = some t0:=by rcases hd with h | h;exact absurd h hne;exact h
  have z1:((n:Int)==0)=false:=by rw [beq_eq_false_iff_ne];omega
  have z2:IntKind.i64.wrap ((n:Int)-1)=((n-1:Nat):Int):=by have:=HL.out;rw [IntKind.wrap_i64];omega
  have z3:((n-1:Nat):Int)<(n:Int):=by omega
  have z4:(0:Int)<=((n-1:Nat):Int):=by omega
  have hr8:=HM.out.1.row8
  rw [<-HN.out] at hr8
  obtain ⟨g7,cap7,e7,c7⟩:=ints_at hr8 (n-1) (by rw [HN.out];omega)
  simp at e7
  obtain ⟨rfl,rfl⟩:=e7
  have hlv:toks[n-1]'(by rw [HN.out];omega)=t0:=by
   rw [List.getLast?_eq_getElem?,HN.out] at hlast
   exact (List.getElem?_eq_some_iff.1 hlast).2
  rw [hlv] at c7
  have HC7:Hid (∀wk,A.grownBy wk none->wk.cell? ⟨g7,n-1,none⟩=some (.int .i64 t0)):=fun wk hk=>hk.cell c7 (by simp)
  clear hd hlast hr8 hlv c7 hn
  by_cases ht:s.tok=t0
  ·have HTT:Hid (s.tok=t0/\toks≠[]):=⟨ht,hne⟩
   have q1:(t0 != s.tok)=false:=by rw [ht];simp
   clear htk htok ht hne h0
   go_upto_region 53 with fail
   refine wp_region_hold 1000 (fun y=>A.grownBy y none) (by kernel_rfl) ?_
   have G0:Hid (A.grownBy A.drew none):=grown_drew _ _
   generalize A.drew=wd at G0 ⊢
   have J:Idx [0,1,2,3,4,5,6,7,8,9,10]:=trivial
   iterate 11 (refine tK J (G0.out) rfl rfl (fun wk hk=>by have q2:=HC7.out wk hk;go_simp;try rfl) ?_;replace J:=J.tl;try simp only [pN])
   clear J
   refine wpHold_one (i:=11) rfl (by kernel_rfl) (by rfl) (fun K hK=>?_)
   go_wp2_with fail
   refine (rtoken (HM.out.1.run.grown G0.out)).mono ?_
   rintro e w3 ⟨rfl,e3⟩
   subst e3
   go_wp2_with fail
   refine hK.out _ _ (fun _=>G0.out) ?_
   clear hK K
   try simp only [pN]
   have J:Idx [12,13]:=trivial
   iterate 2 (refine tK J (G0.out) rfl rfl (fun wk hk=>by have q2:=HC7.out wk hk;go_simp;try rfl) ?_;replace J:=J.tl;try simp only [pN])
   clear J
   refine wpHold_done (by kernel_rfl) ?_
   refine (‹∀(a:Act) (w:World),Code.wp Tryz.prog _ _ a w->_› _ _ ?_)
   go_wp2_with fail
   exact ⟨_,_,_,_,⟨rfl,rfl,rfl,rfl,rfl,rfl,rfl,rfl,rfl,rfl⟩,(HM.out.1.keep G0.out).next HM.out.2.1 HM.out.2.2 HTT.out.1 HTT.out.2⟩
  ·have HT:Hid (∀y ∈ toks,y≠s.tok):=fun y hy=>by have:=htk y hy;omega
   have q1:(t0 != s.tok)=true:=by simp;exact fun e=>ht e.symm
   clear htk htok ht hne h0
   go_upto_region 53 with fail
   refine wp_region_hold 1000 (fun y=>A.grownBy y none) (by kernel_rfl) ?_
   have G0:Hid (A.grownBy A.drew none):=grown_drew _ _
   generalize A.drew=wd at G0 ⊢
   have J:Idx [0,1,2,3,4,5,6,7,8,9,10]:=trivial
   iterate 11 (refine tK J (G0.out) rfl rfl (fun wk hk=>by have q2:=HC7.out wk hk;go_simp;try rfl) ?_;replace J:=J.tl;try simp only [pN])
   clear J
   refine wpHold_one (i:=11) rfl (by kernel_rfl) (by rfl) (fun K hK=>?_)
   go_wp2_with fail
   refine (rtoken (HM.out.1.run.grown G0.out)).mono ?_
   rintro e w3 ⟨rfl,e3⟩
   subst e3
   go_wp2_with fail
   refine hK.out _ _ (fun _=>G0.out) ?_
   clear hK K
   try simp only [pN]
   have J:Idx [12,13]:=trivial
   iterate 2 (refine tK J (G0.out) rfl rfl (fun wk hk=>by have q2:=HC7.out wk hk;go_simp;try rfl) ?_;replace J:=J.tl;try simp only [pN])
   clear J
   refine wpHold_done (by kernel_rfl) ?_
   refine (‹∀(a:Act) (w:World),Code.wp Tryz.prog _ _ a w->_› _ _ ?_)
   obtain ⟨wo,hwo⟩:∃wo:World,wo=w3:=⟨_,rfl⟩
   have HMO:Hid (Mid w wo b v7 (.slice (some ⟨g7,0,none⟩) n ac) s t0 back toks p tn i):=by rw [hwo];exact HM.out.1.keep G0.out
   rw [<-hwo]
   clear hwo
   go_wp2_with fail
   go_loopw [26] (fun q wr=>∃k:Nat,q=.int .i64 (k:Nat)/\k<=n/\Hid (wo.grownBy wr none)) (fun q _=>n-(intOf q).toNat)
   case atStart=>exact ⟨0,rfl,Nat.zero_le _,grown_refl _ _⟩
   case round =>
    obtain ⟨k,rfl,hk,G⟩:=hrel
    by_cases hlk:k<n
    ·have k1:(k:Int)<(n:Int):=by omega
     have k2:(0:Int)<=(k:Int):=by omega
     have HLK:Hid (k<n):=hlk
     have d1:IntKind.i64.wrap ((k:Int)+1)=(k:Int)+1:=by have:=HL.out;rw [IntKind.wrap_i64];omega
     have hr8:=HMO.out.row8
     rw [<-HN.out] at hr8
     obtain ⟨g8,cap8,e8,c7⟩:=ints_at hr8 k (by rw [HN.out];exact hlk)
     simp at e8
     obtain ⟨rfl,rfl⟩:=e8
     obtain ⟨y,hy⟩:∃y,toks[k]'(by rw [HN.out];exact hlk)=y:=⟨_,rfl⟩
     have hne:(y==s.tok)=false:=by
      rw [beq_eq_false_iff_ne,<-hy]
      exact HT.out _ (List.getElem_mem _)
     rw [hy] at c7
     have HC7:Hid (∀wk,wo.grownBy wk none->wk.cell? ⟨g7,k,none⟩=some (.int .i64 y)):=fun wk hk=>hk.cell c7 (by simp)
     clear hy c7 hr8
     go_upto_region 57 with fail
     refine wp_region_hold 1000 (fun y=>wo.grownBy y none) (by kernel_rfl) ?_
     have G0:Hid (wo.grownBy wr.drew none):=grown_trans G.out (grown_drew _ _)
     generalize wr.drew=wd at G0 ⊢
     have J:Idx [0,1,2,3,4]:=trivial
     iterate 5 (refine tK J (G0.out) rfl rfl (fun wk hk=>by have q2:=HC7.out wk hk;go_simp;try rfl) ?_;replace J:=J.tl;try simp only [pN])
     clear J
     refine wpHold_one (i:=5) rfl (by kernel_rfl) (by rfl) (fun K hK=>?_)
     go_wp2_with fail
     refine (rtoken (HMO.out.run.grown G0.out)).mono ?_
     rintro e w3 ⟨rfl,e3⟩
     subst e3
     go_wp2_with fail
     refine hK.out _ _ (fun _=>G0.out) ?_
     clear hK K
     try simp only [pN]
     have J:Idx [6]:=trivial
     iterate 1 (refine tK J (G0.out) rfl rfl (fun wk hk=>by have q2:=HC7.out wk hk;go_simp;try rfl) ?_;replace J:=J.tl;try simp only [pN])
     clear J
     refine wpHold_done (by kernel_rfl) ?_
     refine (‹∀(a:Act) (w:World),Code.wp Tryz.prog _ _ a w->_› _ _ ?_)
     go_wp2_with fail
     go_roundw
     case rel=>exact ⟨k+1,by go_num,by have:=HLK.out;omega,G0⟩
     case measure=>have:=HLK.out;simp [intOf];omega
    ·have k1:¬(k:Int)<(n:Int):=by omega
     go_wp2_with fail
     refine (rtoken (HMO.out.run.grown G.out)).mono ?_
     rintro e w3 ⟨rfl,e3⟩
     have G3:Hid (wo.grownBy w3 none):=by rw [e3];exact G.out
     clear e3
     obtain ⟨w5,hw5,H5⟩:=al1 w3 #[.int .i64 s.tok] 2
     obtain ⟨g5,hg5⟩:∃x,w3.heap.size=x:=⟨_,rfl⟩
     rw [hg5] at H5
     have HW5:Hid (w3.alloc (.cells #[.int .i64 s.tok] 2)=w5/\w3.heap.size=g5):=⟨hw5,hg5⟩
     have GO:Hid (wo.grownBy w5 none):=grown_trans G3.out H5.out.2.1
     clear hw5 hg5
     go_wp2_with (at_builtin;rw [HW5.out.1,HW5.out.2];refine appR 72 2 8 _ rfl inf2 rfl w5 rfl _ _ rfl w.heap.size (.slice (some ⟨g7,0,none⟩) n ac) (ints toks) (.slice (some ⟨g5,0,none⟩) 1 1) [.int .i64 s.tok] rfl rfl ?d5 (rd_blk1 H5.out.1) (by intro x hx;simp at hx;subst hx;rfl) ?d0 ?d1 ?d2 ?_)
     case d5=>exact HMO.out.row8.grown GO.out
     case d0=>have:=HL.out;have:=HN.out;simp [ints];omega
     case d1=>have:=HL.out;have:=HN.out;unfold maxLen;simp [ints];omega
     case d2=>exact (grown_trans HMO.out.run.gr GO.out).size
     intro v9 w9 hr9 hg9 hv9
     rw [ints_app] at hr9
     have HZ:Hid (Onc w w9 b v7 v9 s back (toks ++ [s.tok]) p tn (i+1)):=(HMO.out.keep GO.out).app8 HM.out.2.1 HM.out.2.2 hr9 hg9 hv9
     obtain ⟨u1,u2,u3,hu⟩:∃u1 u2 u3,v9=.slice u1 u2 u3:=by
      obtain ⟨a1,a2,e⟩:=hr9.sl
      exact ⟨_,_,_,e⟩
     subst hu
     clear hr9 hg9 hv9
     go_wp2_with fail
     exact ⟨_,_,_,_,⟨rfl,rfl,rfl,rfl,rfl,rfl,rfl,rfl,rfl,rfl⟩,HZ.out⟩
end Go.Proofs.YtanoabliahcbeaaGreat.Wn
